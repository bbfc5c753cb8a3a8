import PyProof.Rows.All
import Wide.All
import OpenK.AllK
import Wide.FinOn
import PyProof.EqAt
import PyProof.EqKinds
import PyProof.TupleCall
import Open.SpecLaws
import KE.OsHead
import KE.OsGo
import PySem.Challenge.RW_hallends_s01_answers
import TfLines
import KE.BitLaws
import PyProof.ExcBaseAll.Exception
import PyProof.ExcAttrAll.Exception
import PyProof.RulesAs
import PyProof.NsDelKeeps
import PyProof.Draws
import PyProof.EnumMake
import PyProof.ListStr
import PyProof.WalkInts
import PyWqacdc
import TaflEndsSpec
set_option Elab.async false
set_option linter.all false
set_option maxRecDepth 100000
set_option maxHeartbeats 4000000
section
open PySem PySem.W PyProof.Rows PySem.Calls
section
local macro_rules
  | `($f:ident $_*) => do
    if f.getId == `PySem.W.holds_os then `(False.elim (by assumption)) else Lean.Macro.throwUnsupported
set_option maxRecDepth 1000000 in set_option maxHeartbeats 0 in theorem Hd(_:False):PySem.Challenge.rw_hallends_s01_answers.Holds:=by w_on;k_headS
end
namespace He
noncomputable def kW(st:SharedT->Thread->Option (SharedT×Thread))(ok:Thread->Bool):Nat->SharedT->Thread->Option SharedT|0,_,_=>none|n+1,s,t=>match through t with|true=>some s|false=>match ok t with|false=>none|true=>match st s t with|some (s',t')=>kW st ok n s' t'|none=>none
theorem Zm{p:Program}{w:World}{m:Nat}{a:Option Value}:∀{n:Nat}{s s':SharedT}{t:Thread},kW (stepT (denote treeTable) p w) (stepOk m a) n s t=some s'->topRun treeTable p w m a n s.abs t=some s'.abs
|0,_,_,_,h=>by cases h
|n+1,s,s',t,h=>by
 unfold kW at h;unfold topRun;cases he:through t<;>simp only[he]at h|-
 ·cases hk:stepOk m a t<;>simp only[hk]at h|-;·cases h
  ·cases hs:stepT (denote treeTable) p w s t<;>simp only[hs]at h;·cases h
   ·rw[stepT_spec hs];exact Zm h
 ·cases h;rfl
noncomputable def t0(P:Params):BT:=((((((((((BT.nil.ins 0 (boot_o_0 P)).ins 1 (boot_o_1 P)).ins 2 (boot_o_2 P)).ins 3 (boot_o_3 P)).ins 4 (boot_o_4 P)).ins 5 (boot_o_5 P)).ins 6 (boot_o_6 P)).ins 7 (boot_o_7 P)).ins 8 (boot_o_8 P)).ins 9 (boot_o_9 P)).ins 10 (boot_o_10 P)
noncomputable def s0(w:World)(os:OsState):SharedT:=⟨t0 w.params,11,(boot_heap w.params).life,#[],boot_drawn,boot_toks,os⟩
theorem js(w:World)(os:OsState):(s0 w os).abs=⟨boot_heap w.params,#[],boot_drawn,boot_toks,os⟩:=by kernel_rfl
noncomputable abbrev pg:Program:=OpenSpec.prog PySem.Challenge.rw_hallends_s01_answers
noncomputable def rn(w:World)(os:OsState):Option SharedT:=kW (PySem.W.Fast.tw10156331382660048174 (PySem.W.Fast.tw11892475500146522536 PySem.W.Fast.tw14364793385576792824) pg w) (PySem.W.Fast.tw6613529449190102663 11 (some (.ref 6))) 12274 (s0 w os) (topStub pg)
theorem mm(w:World)(os:OsState):kW (stepT (denote treeTable) pg w) (stepOk 11 (some (.ref 6))) 12274 (s0 w os) (topStub pg)=rn w os:=by rw[PySem.W.Fast.te10156331382660048174,PySem.W.Fast.te11892475500146522536,PySem.W.Fast.te14364793385576792824,PySem.W.Fast.te6613529449190102663];rfl
noncomputable abbrev mods:=importedModules pg.main.body
def gt(s:SharedT)(a:Addr):Option Obj:=match Nat.blt a s.n with
|true=>match s.tree.get a with|some o=>alive o|none=>none
|false=>none
theorem mL{s:SharedT}{a:Addr}{o:Obj}(h:gt s a=some o):s.abs.heap.get? a=some o:=by
 unfold gt at h;cases e:Nat.blt a s.n<;>simp only[e]at h;·cases h
 ·cases g:s.tree.get a<;>simp only[g]at h;·cases h
  ·exact(abs_get (Nat.blt_eq.mp e) g).trans h
theorem cm{s:SharedT}:∀{as:List Addr}{l:List (Addr×Obj)},as.map (gt s)=l.map (fun p=>some p.2)->as.map s.abs.heap.get?=l.map fun p=>some p.2|[],[],_=>rfl|[],_::_,h=>by cases h|_::_,[],h=>by cases h|a::as,p::l,h=>by simp only[List.map_cons,List.cons.injEq]at h|-;exact⟨mL h.1,cm h.2⟩
noncomputable abbrev lo:List Str:=["CHOICES"]
noncomputable abbrev Xt(s:Shared):Bool:=xlAt Hd.view_1 [] s&&recOk [] s
noncomputable def sn(s:SharedT):=PySem.W.Fast.tw4187177175401517315 Hd.view_1 lo (PySem.W.Fast.tw5923862056798008813 pg.main.body) Xt true s.abs
section
variable(w:World)(o:OsState)
theorem l0:(rn w o).map (fun s=>staticsOk (PySem.W.Fast.tw5923862056798008813 pg.main.body) (boot_heap w.params) s.abs.heap&&namesBound pg s.abs.heap&&gensDone s.abs&&laidKept (boot_heap w.params) s.abs.heap)=some true:=by kernel_rfl
theorem l1:(rn w o).map (fun s=>(fun(a,_)=>a) (sn s))=some (expectedOf Hd.view_1):=by kernel_rfl
theorem l2:(rn w o).map (fun s=>(fun(_,b,c,d,_)=>(b,c,d)) (sn s))=some (bltViewBooted,true,true):=by kernel_rfl
theorem l3:(rn w o).map (fun s=>(fun(_,_,_,_,e,f,_)=>(e,f)) (sn s))=some (pinGoodD (drecsOf Hd.view_1),plainGoodE Hd.view_1 (looseW Hd.view_1 lo)):=by kernel_rfl
theorem l4:(rn w o).map (fun s=>(fun(_,_,_,_,_,_,g,h,i)=>(g,h,i)) (sn s))=some (plainGoodD Hd.view_1 lo,wideGood Hd.view_1,clsGoodW Hd.view_1 lo):=by kernel_rfl
theorem l5:(rn w o).map (fun s=>((Hd.heap_1 w.params).map (·.1)).map (gt s))=some ((Hd.heap_1 w.params).map fun p=>some p.2):=by kernel_rfl
end
end He
open PySem PySem.W PyProof.Rows PySem.Calls
namespace He
theorem bK{p q:Program}{j:List Str}{y:Shared->Bool}{K:Params->Frag}{v:List Addr}{e:∀P,v=(K P).map (·.1)}{N:Nat}{R:World->OsState->Option SharedT}{S:SharedT->_}(V:opening p=plainProg p.main.scope.names)(hN:Nat.ble 600 N=true)(W:∀s,fenceModules? p s=some s)(Z:∀w os,kW (stepT (denote treeTable) p w) (stepOk 11 (some (.ref 6))) N (s0 w os) (topStub p)=R w os)(X:∀s:SharedT,openSeen q j (importedModules p.main.body) y true s.abs=S s)(U:∀w o,(R w o).map (fun s=>staticsOk (PySem.W.Fast.tw5923862056798008813 p.main.body) (boot_heap w.params) s.abs.heap&&namesBound p s.abs.heap&&gensDone s.abs&&laidKept (boot_heap w.params) s.abs.heap)=some true)(T:∀w o,(R w o).map (fun s=>(fun(a,_)=>a) (S s))=some (expectedOf q))(Q:∀w o,(R w o).map (fun s=>(fun(_,b,c,d,_)=>(b,c,d)) (S s))=some (bltViewBooted,true,true))(O:∀w o,(R w o).map (fun s=>(fun(_,_,_,_,e,f,_)=>(e,f)) (S s))=some (pinGoodD (drecsOf q),plainGoodE q (looseW q j)))(M:∀w o,(R w o).map (fun s=>(fun(_,_,_,_,_,_,g,h,i)=>(g,h,i)) (S s))=some (plainGoodD q j,wideGood q,clsGoodW q j))(L:∀w o,(R w o).map (fun s=>((K w.params).map (·.1)).map (gt s))=some ((K w.params).map fun p=>some p.2)):LeftO p q j y (kHook K v e).obs (kHook K v e).val N:=fun w=>by
 obtain⟨⟨h0,gs,d,k,os⟩,e1,e'⟩:=Option.map_eq_some_iff.mp (boot_open V hN W w);obtain⟨rfl,rfl,rfl,rfl⟩:h0=boot_heap w.params/\gs=#[]/\d=boot_drawn/\k=boot_toks:=by simpa using e'
 obtain⟨s,z,B⟩:=Option.map_eq_some_iff.mp (U w os);have u:=T w os;have n:=Q w os;have m:=O w os;have l:=M w os;have A:=L w os;rw[z]at u n m l A;rw[<-PySem.W.Fast.te5923862056798008813]at B;have r:=Zm ((Z w os).trans z);rw[js]at r;have t:topFrom treeTable p w N ⟨boot_heap w.params,#[],boot_drawn,boot_toks,os⟩=some s.abs:=by unfold topFrom;dsimp only;rw[show((boot_heap w.params).isNs mainGlobals&&(#[]:Array GenState).size==0)=true by kernel_rfl,show(boot_heap w.params).objs.size=11 by kernel_rfl,show(boot_heap w.params).nsMap mainGlobals "__annotations__"=some (.ref 6) by kernel_rfl,r];show(match staticsOk (importedModules p.main.body) (boot_heap w.params) s.abs.heap&&namesBound p s.abs.heap&&gensDone s.abs&&laidKept (boot_heap w.params) s.abs.heap with|true=>_|false=>_)=_;rw[B]
 have q:openSeen q j (importedModules p.main.body) y true s.abs=openGood q j:=by
  rw[X];simp only[Option.map_some,Option.some.injEq]at u n m l;generalize S s=x at u n m l|-;obtain⟨x1,J,I,H,G,F,E,D,C⟩:=x;cases u;obtain⟨rfl,rfl,rfl⟩:J=_/\I=_/\H=_:=by simpa only[Prod.mk.injEq]using n
  obtain⟨rfl,rfl⟩:G=_/\F=_:=by simpa only[Prod.mk.injEq]using m
  obtain⟨rfl,rfl,rfl⟩:E=_/\D=_/\C=_:=by simpa only[Prod.mk.injEq]using l
  rfl
 unfold openEnds;rw[e1];show(topFrom treeTable p w N _).map _=_;rw[t];refine congrArg some (Prod.ext q ?_);show v.map s.abs.heap.get?=(K w.params).map fun p=>some p.2;rw[e w.params];exact cm (Option.some.inj A)
theorem lI(s:SharedT):openSeen Hd.view_1 lo (importedModules pg.main.body) Xt true s.abs=sn s:=by unfold sn;rw[PySem.W.Fast.te4187177175401517315,<-PySem.W.Fast.te5923862056798008813]
theorem left(a:List Addr)(e:∀P,a=(Hd.heap_1 P).map (·.1)):LeftO pg Hd.view_1 lo Xt (kHook Hd.heap_1 a e).obs (kHook Hd.heap_1 a e).val 12274:=bK (by kernel_rfl) (by decide+kernel) (fun s=>by kernel_rfl) mm lI l0 l1 l2 l3 l4 l5
end He
end
section
open PySem.W(Frag InitBack Looks WRecords WalkOS clsIn codeIn emptyDict findCls findIn fnOf handedIn hasDictIn instIn instObj isFn keepIn lookIn makesIn methodObj mroIn notCls nsIn osa_eq plainGet plainOver readsIn specialIn subIn takerIn typeIn)
open Tafl(Answer Bytes Cur LF Piece Rules STRIDE TAKEN addNew asInts at_ begins digitsOf fault firstOf good grammar isDigit isLetter judge kindSign lit many mayStand nameIn nat? number numberFrom pieceByte readRows row? rowLine rowsIn runIn says setFrom some_ sooner sureFor tells word wrongs)
open TaflEnds(Call Held graphOf growTo howMany ofHeld ofLine toldMove)
open Lean in
local macro_rules (kind:=Lean.Parser.Command.declaration)|s=>do
 if[``Parser.Command.definition,``Parser.Command.abbrev,``Parser.Command.instance].contains s[1].getKind&&s[0][1].isNone&&s[0][4].isNone then return s.setArg 0 (s[0].setArg 4 (mkNullNode #[mkNode ``Parser.Command.noncomputable #[mkAtom "noncomputable"]]))
 Macro.throwUnsupported
local macro_rules|`(tactic|exists $a,$b,*)=>`(tactic|refine⟨$a,$b,*, ?_⟩)
local macro_rules|`(∅)=>`(by omega)
local macro_rules|`(⋯)=>`(by decide)
local macro_rules|`(∎)=>`(by decide+kernel)
local macro_rules|`(‹$h›)=>`(by simpa using $h)
local macro_rules|`(tactic|lia)=>`(tactic|omega)
local macro_rules|`(tactic|cbv)=>`(tactic|dsimp only)
local macro_rules|`(#v[])=>`(by with_unfolding_all rfl)
def z3:=@List.length_map
def z4:=@List.getElem?_eq_getElem
def z5:=@List.getD_eq_getElem?_getD
def z7:=@List.getElem?_map
def z8:=@List.getElem?_eq_some_iff
def za:=@PySem.wpAny_bind
def zb:=@if_neg
def zc:=@if_pos
def zd:=@List.length_append
def ze:=@Nat.le_refl
def zf:=@List.mem_of_getElem?
def zg:=@List.mem_cons_of_mem
def zh:=@List.mem_cons_self
def zi:=@PySem.Heap.get?_push_of_some
def zj:=@decide_eq_true
def zk:=@List.mem_map
def zm:=@List.length_cons
def zo:=@decide_eq_false
def zp:=@Bool.and_eq_true
def zq:=@decide_eq_true_iff
def zr:=@PySem.wpAny_pure
def zt:=@Option.some.inj
def zu:=@List.map_append
def zw:=@List.mem_cons
def zx:=@Nat.zero_le
def zy:=@Option.map_eq_some_iff
def zA:=@PySem.Heap.lt_size
def zB:=@List.mem_singleton
def zC:=@List.mem_range
def zD:=@List.mem_append
def zE:=@PySem.Paired.length
def zF:=@Nat.lt_of_lt_of_le
def zG:=@List.map_map
def zH:=@List.map_cons
def zI:=@List.size_toArray
def zJ:=@decide_eq_true_eq
def zK:=@PySem.F.plainAttrs_list
def zL:=@beq_eq_false_iff_ne
def zM:=@PySem.Heap.get?_push_size
def zN:=@Ne.symm
def zO:=@List.length_take
def zP:=@beq_iff_eq
def zQ:=@Bool.false_ne_true
def zR:=@List.append_nil
def zS:=@List.mem_filter
def zT:=@congrArg
def zU:=@PySem.mem_of_lookup
def zV:=@Nat.ne_of_lt
def zW:=@PySem.F.slot_list_append
def zX:=@List.append_assoc
def zY:=@PySem.F.type_list_append
def zZ:=@Bool.eq_iff_iff
def z_:=@Nat.le_trans
def y0:=@PySem.PassesOwn.never
def y1:=@List.take_length
def y2:=@Nat.lt_of_le_of_lt
def y3:=@decide_eq_decide
def y4:=@Bool.not_eq_true
def y6:=@List.map_congr_left
def y8:=@PySem.boot_len
def y9:=@List.getElem?_eq_none_iff
def ya:=@List.map_eq_nil_iff
def yb:=@List.flatMap_singleton
def yc:=@PySem.F.plainAttrs_str
def yd:=@List.flatMap_append
def ye:=@PySem.Heap.get?_update_self
def yf:=@List.drop_eq_getElem_cons
def yg:=@List.range_succ
def yh:=@Nat.mul_comm
def yi:=@List.take_succ
def yj:=@List.length_range
def yk:=@PySem.Heap.size_push
def ym:=@List.foldl_cons
def yn:=@List.find?_cons
def yp:=@List.lookup_cons
def yq:=@List.all_eq_true
def yr:=@List.getElem?_append_left
def yt:=@Bool.or_eq_true
def yu:=@List.filterMap_cons
def yw:=@Nat.div_lt_iff_lt_mul
def yx:=@List.mem_append_right
def yz:=@Array.getElem?_setIfInBounds_ne
def yA:=@List.mem_filterMap
def yB:=@List.mem_append_left
def yC:=@List.getElem?_append_right
def yD:=@Bool.false_eq_true
def yE:=@Option.map_some
def yF:=@List.length_replicate
def yG:=@PySem.wpAny_mono
def yH:=@List.mem_flatMap
def yI:=@List.length_drop
def yJ:=@List.getElem?_of_mem
def yK:=@PyProof.Rows.callWith_type1
def yL:=@List.findIdx?_eq_some_iff_getElem
def yM:=@Nat.lt_succ_of_lt
def yN:=@List.drop_eq_nil_of_le
def yO:=@List.replicate_succ
def yP:=@List.length_set
def yQ:=@List.length_nil
def yR:=@PySem.wpAny_holding
def yS:=@PySem.wpAny_truthy_bool
def yT:=@PySem.Heap.get?_update_other
def yU:=@Nat.lt_succ_self
def yV:=@Nat.lt_irrefl
def yW:=@if_false
def yX:=@PySem.wpAny_Call_Name_kw
def yY:=@decide_eq_false_iff_not
def yZ:=@List.nodup_append
def y_:=@List.flatten_cons
def xa:=@List.flatMap_cons
def xb:=@PySem.wpAny_standAt
def xc:=@Nat.not_lt_zero
def xf:=@Nat.min_eq_left
def xg:=@PySem.wpAny_field
def xh:=@List.getElem?_range
def xi:=@Array.length_toList
def xj:=@if_true
def xl:=@Nat.ne_of_gt
def xm:=@List.filter_eq_nil_iff
def xn:=@Nat.mod_eq_of_lt
def xp:=@List.getElem_map
def xq:=@List.any_eq_true
def xr:=@List.drop_drop
def xt:=@PySem.F.type_str_join
def xw:=@PySem.F.slot_str_join
def xy:=@List.length_filter_le
def xA:=@PySem.wpAny_setField
def xB:=@PySem.W.looks_findIn
def xC:=@PySem.F.slot_tuple_iterator_next
def xD:=@Bool.not_eq_true'
def xE:=@List.take_succ_cons
def xF:=@List.length_pos_iff
def xG:=@beq_self_eq_true
def xH:=@Nat.min_le_right
def xI:=@List.nil_sublist
def xJ:=@List.ext_getElem
def xK:=@List.drop_zero
def xM:=@Bool.false_and
def xN:=@PySem.F.slot_list_extend
def xO:=@PySem.W.callWith_K
def xP:=@Option.toList_some
def xQ:=@Nat.zero_add
def xR:=@Nat.mul_succ
def xS:=@List.find?_eq_none
def xT:=@UInt8.toNat_inj
def xU:=@PySem.F.plain_min_loop
def xV:=@List.nodup_cons
def xW:=@List.lookup_cons_self
def xX:=@List.getElem?_eq_none
def xY:=@List.contains_iff_mem
def xZ:=@PySem.Obj.data_mapFields
def x_:=@PySem.wpAny_passesOwn
def w9:=@List.perm_ext_iff_of_nodup
def wa:=@List.nodup_nil
def wc:=@List.mem_of_mem_take
def we:=@trivial
def wg:=@Nat.succ_mul
def wj:=@Nat.le_of_lt
def wk:=@List.map_nil
def wo:=@List.getElem_mem
def wq:=@PySem.wpAny_pyIter_enum
def wu:=@PySem.wpAny_newObj_type
def wx:=@List.findIdx?_eq_none_iff
def wy:=@Nat.mul_le_mul_left
def wz:=@List.findSome?_cons
def wA:=@PySem.F.type_list_extend
def wB:=@Bool.true_and
def wC:=@Bool.or_false
def wD:=@List.getElem?_take
def wF:=@List.findIdx?_cons
def wG:=@Nat.le_succ
def wH:=@List.length_eq_zero_iff
def wI:=@List.take_zero
def wJ:=@List.range_succ_eq_map
def wK:=@List.map_set
def wL:=@List.getElem?_set_self
def wM:=@List.flatten_replicate_singleton
def wN:=@List.count_append
def wO:=@Int.toNat_natCast
def wQ:=@PySem.wpAny_loadPart'
def wR:=@PySem.W.methodCall_KW
def wU:=@Option.bind_some
def wV:=@Nat.mod_lt
def wW:=@List.nodup_range
def wX:=@List.filter_cons
def wY:=@List.all_cons
def wZ:=@PySem.codeAny_mono
def w_:=@List.mem_iff_getElem
def va:=@List.getElem?_set_ne
def vb:=@PySem.W.looks_clsIn
def vc:=@PySem.Obj.isFreed_of_fields
def vd:=@PySem.wpAny_call
def ve:=@List.pairwise_cons
def vf:=@List.map_replicate
def vg:=@List.getElem_range
def vj:=@List.exists_cons_of_ne_nil
def vk:=@List.count_pos_iff
def vm:=@Bool.and_false
def vn:=@PySem.wpAny_execs_nil
def vo:=@PySem.F.excBase_Exception
def vp:=@Classical.byContradiction
def vt:=@of_decide_eq_true
def vv:=@Nat.le_of_succ_le
def vy:=@List.take_add_one
def vz:=@List.mem_of_head?
def vA:=@List.filter_congr
def vB:=@List.ext_getElem?
def vC:=@Bool.eq_false_iff
def vD:=@PySem.F.type_str_isdigit
def vF:=@PySem.F.slot_str_isdigit
def vI:=@List.sum_cons
def vJ:=@List.map_take
def vK:=@List.map_drop
def vM:=@List.getElem?_take_of_lt
def vN:=@List.find?_range_eq_some
def vO:=@List.any_cons
def vQ:=@PySem.wpAny_seqItems
def vR:=@PySem.wpAny_pyIter_tuple
def vT:=@PySem.wpAny_letOwnedTupleGo_enum
def vU:=@PySem.tupleKind_room_in1
def vV:=@PySem.F.slot_list_index
def vX:=@PySem.Calls.spliced_cons
def vY:=@Option.getD_some
def vZ:=@Nat.succ_ne_self
def v_:=@Nat.div_eq_of_lt
def u9:=@List.isEmpty_iff
def ua:=@List.getElem?_replicate
def ub:=@PySem.W.cellsFrom_some
def uc:=@Nat.pow_succ
def ud:=@Nat.mul_zero
def ue:=@Nat.lt_trans
def uf:=@Nat.add_zero
def ug:=@Option.map_none
def uh:=@Nat.one_ne_zero
def ui:=@Nat.mul_add_mod
def uj:=@Nat.mul_add_div
def uk:=@List.of_mem_zip
def um:=@List.idxOf_cons
def uo:=@List.forIn_cons
def ur:=@List.count_cons
def uu:=@PySem.F.slot_dict_get
def uv:=@Nat.mul_le_mul_right
def uw:=@Nat.mul_le_mul
def ux:=@Bool.or_eq_false_iff
def uy:=@PySem.W.plainGet_of
def uA:=@PySem.W.looks_mroIn
def uB:=@PySem.W.callWith_K0
def uC:=@PySem.Calls.callWith_builtin
def uD:=@List.drop_succ_cons
def uE:=@Int.toNat_of_nonneg
def uF:=@PySem.pushCells_keeps
def uG:=@PySem.codeAny_builtin
def uH:=@Bool.false_or
def uI:=@PySem.W.check_slot
def uJ:=@PySem.F.args_tuple_iterator_next_1
def uK:=@PySem.F.entry_tuple_iterator_next
def uL:=@bne_self_eq_false
def uM:=@PySem.wpAny_tryCatch
def uN:=@PySem.wpAny_letGo
def uO:=@PySem.sizeLine_eq
def uP:=@PySem.codeAny_call_builtin
def uQ:=@PySem.Around.under_plainId
def uR:=@Nat.sub_zero
def uS:=@Nat.sub_self
def uT:=@Nat.le_of_lt_succ
def uU:=@Nat.le_of_eq
def uV:=@List.getElem?_set
def uW:=@List.foldl_append
def uX:=@PySem.W.any_some
def uY:=@PySem.W.Looks.ld
def uZ:=@Option.getD_none
def u_:=@Nat.le_add_right
def tf:=@List.getElem_set
def tm:=@List.getElem_inj
def tq:=@Int.natCast_emod
def tz:=@Int.natCast_ediv
def tD:=@PySem.plainId_quiet
def tE:=@Nat.pow_pos
def tF:=@PySem.call_meets
def tG:=@PySem.W.length_le_weightAllW
def tH:=@Nat.div_add_mod
def tI:=@List.head?_drop
def tJ:=@List.filter_map
def tK:=@Int.natCast_mul
def tL:=@PySem.W.Looks.of_pure
def tM:=@PySem.F.type_str_startswith
def tN:=@PySem.F.slot_str_startswith
def tO:=@PySem.wpAny_pyIter_list
def tP:=@PySem.seqIndex_neg
def tQ:=@PySem.Calls.spliced_nil
def tR:=@List.forIn_nil
def tS:=@Array.getElem?_eq_some_iff
def tT:=@PySem.plainObj_wpAny_Assign_Attribute
def tU:=@List.mem_of_find?_eq_some
def tV:=@Array.getElem?_eq_getElem
def tW:=@PySem.W.mg_of
def tX:=@PySem.F.entry_min_loop
def tY:=@Prod.mk.injEq
def tZ:=@Option.isSome_iff_exists
def t_:=@PySem.wpAny_throw
def sf:=@PySem.wpAny_alloc
def si:=@PySem.seqIndex_of
def sk:=@PySem.StrLaws.found_one
def so:=@PySem.F.type_list_index
def sr:=@PySem.F.args_dict_get_3
def su:=@PySem.wpAny_updateSeq
def sv:=@PySem.F.entry_dict_get
def sy:=@PyProof.noPylong_small
def sE:=@List.pairwise_lt_range
def sG:=@List.length_pos_of_mem
def sH:=@Classical.epsilon_spec
def sI:=@List.take_append_drop
def sJ:=@List.getElem?_toArray
def sL:=@List.eq_replicate_iff
def sM:=@true_and
def sO:=@PySem.wpAny_newFunctionEnv_cells
def sP:=@PySem.wpAny_loadPart
def sQ:=@PySem.typeIs_str
def sR:=@PySem.arm_exec_Raise
def sS:=@PySem.W.handedOut_of
def sU:=@PySem.Calls.Name_function_global
def sV:=@Nat.pow_le_pow_right
def sW:=@Nat.eq_of_testBit_eq
def sX:=@List.prefix_cons_inj
def sY:=@List.map_id
def sZ:=@List.count_singleton
def s_:=@List.count_replicate
def r8:=@List.count_le_length
def r9:=@List.Pairwise.filter
def ra:=@Bool.and_eq_true_iff
def rb:=@PySem.wpAt_of_wpAny
def rg:=@PySem.W.looks_subIn
def rh:=@PySem.W.findObj_own
def rj:=@List.toList_toArray
def rk:=@eq_iff_iff
def rm:=@cond_false
def rp:=@UInt8.toNat_ofNat'
def rq:=@PySem.wpAny_handled
def rA:=@PySem.W.looks_hook
def rB:=@PySem.W.codeRec_of
def rC:=@Option.isSome_some
def rD:=@List.zip_cons_cons
def rE:=@List.filter_append
def rF:=@List.contains_cons
def rG:=@UInt8.ofNat_toNat
def rH:=@PySem.wpAny_pyNext_enum_itemD
def rJ:=@PySem.wpAny_callSpecial?_slot
def rK:=@PySem.Within.cons
def rL:=@PySem.W.set_plain
def rM:=@Option.isSome_map
def rN:=@Nat.lt_of_succ_lt
def rO:=@List.take_sublist
def rP:=@List.any_eq_false
def rQ:=@Iff.rfl
def rR:=@Classical.not_not
def rS:=@PySem.wpAny_pyNext_range_end
def rT:=@PySem.wpAny_pyNext_enum_endD
def rV:=@PySem.wpAny_pyIter_rangeiter
def rW:=@PySem.wpAny_getItem_list_neg
def rX:=@Nat.min_eq_right
def rY:=@List.map_flatMap
def rZ:=@List.flatMap_def
def r_:=@List.countP_cons
def q0:=@List.cons_append
def qa:=@PySem.wpAt_bind
def qb:=@PySem.wpAny_isTrue_Compare1
def qc:=@PySem.codeAny_call_function
def qd:=@PySem.W.bind_fn
def qe:=@Nat.le_antisymm
def qf:=@List.nil_prefix
def qg:=@List.nil_append
def qh:=@List.head?_cons
def qk:=@List.find?_some
def qm:=@List.filter_nil
def qo:=@or_assoc
def qp:=@PySem.wpAny_loadName_local
def qr:=@PySem.Calls.evalArgs_plain
def qt:=@PySem.Around.frames_deeper
def qu:=@Prod.ext
def qv:=@List.range_add
def qw:=@Bool.and_assoc
namespace HM
open Tafl
variable{d n c:Nat}{b sides:List Nat}{r:Rules}{es:List (List Nat)}{ends f:List Value}
def shl:Bytes->Bytes->Nat|[],_=>0|_::_,[]=>0|x::w,y::r=>if x=y then shl w r+1 else 0
theorem U3:∀(w r:Bytes),shl w r<=w.length
|[],_=>zx _
|_::_,[]=>zx _
|x::w,y::r=>by
 unfold shl;split;·have:=U3 w r;simp only[zm];lia
 ·exact zx _
theorem Hl(w:Bytes):shl w []=0:=by cases w<;>rfl
theorem JQ:∀(w:Bytes)(c:Cur),lit w c=if shl w c.rest=w.length then .ok ⟨c.rest.drop w.length,c.at_+w.length⟩else .error (c.at_+shl w c.rest)
|[],⟨r,a⟩=>by simp[lit,shl]
|x::w,⟨[],a⟩=>by simp[lit,shl,Cur.next]
|x::w,⟨y::r,a⟩=>by
 unfold lit;by_cases h:y=x
 ·subst h;simp only[Cur.next,qh,xj];rw[JQ w];simp only[Cur.on,shl,xj,uD,xK,zm];by_cases q:shl w r=w.length;·simp only[q,xj];congr 2;lia
  ·simp only[q,yW,Nat.add_right_cancel_iff];congr 1;lia
 ·have b:¬x=y:=fun q=>h q.symm;simp[Cur.next,h,shl,b]
def Apart(l:List (Nat×Bytes)):Prop:=l.Pairwise fun a b=>¬a.2<+:b.2/\¬b.2<+:a.2
def most(l:List Nat):Nat:=l.foldl max 0
theorem Gz:∀(l:List Nat)(a b:Nat),l.foldl max (max a b)=max a (l.foldl max b) |[],a,b=>rfl|x::l,a,b=>by rw[ym,ym,Nat.max_assoc,Gz l a (max b x)]
theorem Dj(x:Nat)(l:List Nat):most (x::l)=max x (most l):=by unfold most;rw[ym,Nat.max_comm 0 x,Gz]
theorem JL:∀(l:List Nat),(∀x∈l,x=0)->most l=0|[],_=>rfl|x::l,h=>by rw[Dj,h x (by simp),JL l fun y a=>h y (by simp[a])];rfl
abbrev D8(x:UInt8)(w:Nat×Bytes):Option (Nat×Bytes):=if w.2.head?=some x then some (w.1,w.2.drop 1)else none
abbrev fits(r:Bytes)(w:Nat×Bytes):Bool:=decide (shl w.2 r=w.2.length)
theorem N4(x:UInt8):∀(l:List (Nat×Bytes)),Apart l->Apart (l.filterMap (D8 x))
|[],_=>List.Pairwise.nil
|w::l,h=>by
 unfold Apart at h|-;rw[ve]at h;have d:=N4 x l h.2;rw[yu];unfold D8;split
 ·rename_i e;split at e;·cases e
  ·exact d
 ·rename_i v e;split at e
  ·rename_i f;cases e;rw[ve];refine⟨fun b j=>?_,d⟩;obtain⟨u,i,e⟩:=yA.mp j;split at e
   ·rename_i a;cases e;obtain⟨n,c⟩:=w;obtain⟨m,g⟩:=u;have q:=h.1 _ i;dsimp only at*;cases c with
    |nil=>cases f
    |cons y c=>
     cases g with
     |nil=>cases a
     |cons k g=>
      cases f;cases a;refine⟨fun z=>q.1 ?_,fun z=>q.2 ?_⟩;·exact(sX _).mpr z
      ·exact(sX _).mpr z
   ·cases e
  ·cases e
theorem Kb(x:UInt8)(r:Bytes):∀(l:List (Nat×Bytes)),(∀w∈l,w.2≠[])->l.find? (fits (x::r))=none/\(l.filterMap (D8 x)).find? (fits r)=none\/∃n c,l.find? (fits (x::r))=some (n,x::c)/\(l.filterMap (D8 x)).find? (fits r)=some (n,c)
|[],_=> .inl ⟨rfl,rfl⟩
|(n,c)::l,h=>by
 have d:=Kb x r l fun w f=>h w (zg _ f);cases c with
 |nil=>exact absurd rfl (h _ zh)
 |cons y c=>
  by_cases e:y=x
  ·subst e;have a:D8 y (n,y::c)=some (n,c):=by simp[D8]
   rw[yu,a];by_cases q:shl c r=c.length
   ·right;exists n,c,?_
    ·rw[yn];have:fits (y::r) (n,y::c)=true:=by simp[fits,shl,q]
     rw[this]
    ·cbv;rw[yn];have:fits r (n,c)=true:=by simp[fits,q]
     rw[this]
   ·have b:fits (y::r) (n,y::c)=false:=by simp[fits,shl,q]
    have g:fits r (n,c)=false:=by simp[fits,q]
    cbv;rw[yn,b,yn,g];exact d
  ·have a:D8 x (n,y::c)=none:=by simp[D8,e]
   have b:fits (x::r) (n,y::c)=false:=by simp[fits,shl,e]
   rw[yu,a,yn,b];exact d
theorem Pc(x:UInt8)(r:Bytes):∀(l:List (Nat×Bytes)),(∀w∈l,w.2≠[])->(l.filterMap (D8 x)=[]/\most (l.map fun w=>shl w.2 (x::r))=0)\/(l.filterMap (D8 x)≠[]/\most (l.map fun w=>shl w.2 (x::r))=most ((l.filterMap (D8 x)).map fun w=>shl w.2 r)+1)
|[],_=> .inl ⟨rfl,rfl⟩
|(n,c)::l,h=>by
 have f:=Pc x r l fun w i=>h w (zg _ i);cases c with
 |nil=>exact absurd rfl (h _ zh)
 |cons y c=>
  by_cases e:y=x
  ·subst e;have d:D8 y (n,y::c)=some (n,c):=by simp[D8]
   have b:shl (y::c) (y::r)=shl c r+1:=by simp[shl]
   right;rw[yu,d];refine⟨by simp,?_⟩;rw[zH,Dj,zH,Dj,b];rcases f with⟨g,a⟩ |⟨g,a⟩;·rw[a,g];simp[most]
   ·rw[a];cbv;lia
  ·have d:D8 x (n,y::c)=none:=by simp[D8,e]
   have b:shl (y::c) (x::r)=0:=by simp[shl,e]
   rw[yu,d,zH,Dj,b,Nat.zero_max];exact f
theorem Sl:∀(f:Nat)(l:List (Nat×Bytes))(c:Cur),(∀w∈l,w.2.length<f)->Apart l->l≠[]->oneOf f l c=match l.find? (fits c.rest)with|some w=> .ok (w.1,⟨c.rest.drop w.2.length,c.at_+w.2.length⟩) |none=> .error (c.at_+most (l.map fun w=>shl w.2 c.rest))
|0,l,c,y,_,k=>by cases l with|nil=>exact absurd rfl k|cons w l=>exact absurd (y w zh) (xc _)
|f+1,l,⟨d,F⟩,y,m,k=>by
 unfold oneOf;split
 ·rename_i w o;have t:=tU o;have p:w.2=[]:=by have:=qk o;simpa using this
  have j:l=[w]:=by
   cases l with
   |nil=>cases t
   |cons u l=>
    cases l with
    |nil=>
     rcases zw.mp t with rfl|z;·rfl
     ·cases z
    |cons v l=>
     exfalso;unfold Apart at m;rw[ve]at m;rcases zw.mp t with rfl|z;·exact(m.1 v zh).1 (by rw[p];exact qf)
     ·exact(m.1 w z).2 (by rw[p];exact qf)
  rw[j];have:fits d w=true:=by simp[fits,p,shl]
  rw[yn,this];simp[p]
 ·rename_i o;have a:∀w∈l,w.2≠[]:=fun w b e=>by have:=xS.mp o w b;simp[e]at this
  cases d with
  |nil=>
   have E:l.find? (fits [])=none:=by rw[xS];intro w b;have:=a w b;simp only[fits,Hl,zJ];intro q;exact this (wH.mp q.symm)
   have D:most (l.map fun w=>shl w.2 [])=0:=JL _ fun x B=>by obtain⟨w,Y,rfl⟩:=zk.mp B;exact Hl _
   simp only[Cur.next,List.head?_nil];rw[E];cbv;rw[D];rfl
  |cons x r=>
   simp only[Cur.next,qh];rcases Pc x r l a with⟨i,s⟩ |⟨i,s⟩
   ·rw[zc (by rw[u9];exact i)];rcases Kb x r l a with⟨h,Y⟩ |⟨n,c,h,g⟩;·rw[h];cbv;rw[s];rfl
    ·rw[i]at g;cases g
   ·rw[zb (by rw[u9];exact i)];rw[Sl f (l.filterMap (D8 x)) _ ?_ (N4 x l m) i]
    ·simp only[Cur.on,uD,xK];rcases Kb x r l a with⟨h,g⟩ |⟨n,c,h,g⟩;·rw[h,g];cbv;rw[s];congr 1;lia
     ·rw[h,g];simp only[zm,uD];congr 3;lia
    ·intro w b;obtain⟨u,A,e⟩:=yA.mp b;have C:=y u A;unfold D8 at e;split at e;·cases e;rename_i G;have:u.2≠[]:=a u A;have H:0<u.2.length:=xF.mpr this;show(u.2.drop 1).length<f;rw[yI];lia
     ·cases e
def flat{b:Type}(a:UInt8->Option b)(w:Nat):Nat->Nat->Cur->Except Nat (List b×Cur) |0,_,c=> .ok ([],c) |m+1,k,c=>match c.next.bind a with|none=> .error c.at_|some s=>match(if k%w=w-1 then lit [LF] c.on else .ok c.on)with| .error e=> .error e| .ok d=>(flat a w m (k+1) d).map fun r=>(s::r.1,r.2)
theorem Tr{b:Type}(a:UInt8->Option b)(w m:Nat):∀(n k:Nat)(c:Cur),k%w+(n+1)=w->flat a w (n+1+m) k c=match rowIn a (n+1) c with| .error e=> .error e| .ok (r,d)=>(flat a w m (k+(n+1)) d).map fun q=>(r++q.1,q.2)
|0,k,c,h=>by rw[show 0+1+m=m+1 by lia,flat,rowIn];cases c.next.bind a with|none=>rfl|some s=>cbv;rw[zc ∅,rowIn];cases lit [LF] c.on with|error e=>rfl|ok d=>rfl
|n+1,k,c,h=>by
 rw[show n+1+1+m=(n+1+m)+1 by lia,flat,rowIn];cases c.next.bind a with
 |none=>rfl
 |some s=>
  cbv;have f:(k+1)%w+(n+1)=w:=by
   have g:k%w+1<w:=∅;have:=Nat.mod_add_div k w;have e:(k+1)%w=k%w+1:=by rw[Nat.add_mod,xn (show 1<w by lia),xn g]
   lia
  rw[zb ∅];cbv;rw[Tr a w m n (k+1) c.on f];cases rowIn a (n+1) c.on with|error e=>rfl|ok q=>obtain⟨r,d⟩:=q;show Except.map _ (Except.map _ _)=Except.map _ _;rw[show k+1+(n+1)=k+(n+1+1) by lia];cases flat a w m (k+(n+1+1)) d<;>rfl
theorem Px{b:Type}(a:UInt8->Option b)(w:Nat)(f:0<w):∀(h k:Nat)(c:Cur),flat a w (w*h) (w*k) c=(rowsIn a w h c).map fun r=>(r.1.flatten,r.2.2)
|0,k,c=>by rw[ud,flat,rowsIn];rfl
|h+1,k,c=>by
 have e:w*(h+1)=(w-1)+1+w*h:=by rw[xR];lia
 rw[e,Tr a w (w*h) (w-1) (w*k) c (by rw[Nat.mul_mod_right];lia),rowsIn,show w-1+1=w by lia];cases rowIn a w c with|error e=>rfl|ok q=>obtain⟨r,d⟩:=q;show Except.map _ (flat a w (w*h) (w*k+w) d)=_;rw[show w*k+w=w*(k+1) by rw[xR],Px a w f h (k+1) d];show Except.map _ (Except.map _ _)=Except.map _ ((rowsIn a w h d).bind fun x=>_);cases rowsIn a w h d with|error e=>rfl|ok q=>rfl
theorem RX{f:Type}(a:UInt8->Option f):∀(n:Nat)(c d:Cur)(r:List f),rowIn a n c= .ok (r,d)->r.length=n/\d.at_=c.at_+n+1/\d.rest=c.rest.drop (n+1)
|0,c,d,r,h=>by
 rw[rowIn,JQ]at h;split at h;·cases h;exact⟨rfl,rfl,rfl⟩
 ·cases h
|n+1,c,d,r,h=>by
 rw[rowIn]at h;cases g:c.next.bind a with
 |none=>rw[g]at h;cases h
 |some k=>
  rw[g]at h;dsimp only at h;cases b:rowIn a n c.on with
  |error e=>rw[b]at h;cases h
  |ok q=>
   rw[b]at h;obtain⟨i,o⟩:=q;cases h;obtain⟨m,l,j⟩:=RX a n c.on _ i b;exists by rw[zm,m],?_;·rw[l];show c.at_+1+n+1=_;lia
   ·rw[j];show(c.rest.drop 1).drop (n+1)=_;rw[xr];congr 1;lia
theorem JD{j:Type}(a:UInt8->Option j)(w:Nat):∀(h:Nat)(c e:Cur)(l:List (List j))(b:List Nat),rowsIn a w h c= .ok (l,b,e)->l.length=h/\(∀r∈l,r.length=w)/\b=(List.range h).map (fun i=>c.at_+i*(w+1))/\e.at_=c.at_+h*(w+1)/\e.rest=c.rest.drop (h*(w+1))
|0,c,e,l,b,h=>by rw[rowsIn]at h;cases h;exact⟨rfl,fun r g=>(by cases g),rfl,∅,by simp⟩
|h+1,c,e,l,b,q=>by
 rw[rowsIn]at q;cases g:rowIn a w c with
 |error z=>rw[g]at q;cases q
 |ok x=>
  obtain⟨r,d⟩:=x;rw[g]at q;cases n:rowsIn a w h d with
  |error z=>
   have k:(.error z:Except Nat (List (List j)×List Nat×Cur))= .ok (l,b,e):=by rw[<-q];show _=Except.bind (rowsIn a w h d) _;rw[n];rfl
   cases k
  |ok x=>
   obtain⟨o,f,s⟩:=x;have k:(.ok (r::o,c.at_::f,s):Except Nat (List (List j)×List Nat×Cur))= .ok (l,b,e):=by rw[<-q];show _=Except.bind (rowsIn a w h d) _;rw[n];rfl
   cases k;obtain⟨D,p,C⟩:=RX a w c d r g;obtain⟨B,A,v,u,t⟩:=JD a w h d e o f n;exists by rw[zm,B],fun y m=>?_,?_,?_
   ·rcases zw.mp m with rfl|m;·exact D
    ·exact A y m
   ·rw[wJ,zH,zG,v];congr 1;·lia
    ·apply y6;intro i Y;show d.at_+i*(w+1)=c.at_+(i+1)*(w+1);rw[p,wg];lia
   ·rw[u,p,wg];lia
   ·rw[t,C,xr];congr 1;rw[wg];lia
def Res{b:Type}(r:Except Nat b)(G:b->Prop)(B:Nat->Prop):Prop:=match r with| .ok a=>G a| .error e=>B e
theorem Res.bind{c b:Type}{r:Except Nat c}{f:c->Except Nat b}{G:b->Prop}{B:Nat->Prop}(h:Res (r.bind f) G B):Res r (fun a=>Res (f a) G B) B:=by cases r<;>exact h
theorem Res.imp{b:Type}{r:Except Nat b}{G c:b->Prop}{B d:Nat->Prop}(h:Res r G B)(f:∀a,r= .ok a->G a->c a)(g:∀e,B e->d e):Res r c d:=by cases r with|error e=>exact g e h|ok a=>exact f a rfl h
theorem Py{b f:Type}(a:UInt8->Option b)(g:b->f)(w:Nat):∀(m k:Nat)(c:Cur),flat (fun u=>(a u).map g) w m k c=(flat a w m k c).map fun r=>(r.1.map g,r.2)
|0,k,c=>rfl
|m+1,k,c=>by
 rw[flat,flat];have e:c.next.bind (fun u=>(a u).map g)=(c.next.bind a).map g:=by cases c.next<;>rfl
 rw[e];cases c.next.bind a with|none=>rfl|some s=>dsimp only[yE];cases(if k%w=w-1 then lit [LF] c.on else .ok c.on)with|error e=>rfl|ok d=>cbv;rw[Py a g w m (k+1) d];cases flat a w m (k+1) d<;>rfl
theorem Dn{b a:Nat}(h:begins b a d=true):d<=a:=by unfold begins at h;rw[xq]at h;obtain⟨k,Y,q⟩:=h;rw[zp,zq,zq]at q;have:d*1<=d*10^k:=wy _ (tE ⋯);lia
theorem Hs{i a:Nat}(m:a<=60000):∀(f r d:Nat)(c e:Cur)(n:Nat),f+r=6->(r=0\/(d<=a/\10^r<=10*d))->numberFrom i a f d c= .ok (n,e)->i<=n/\n<=a
|0,r,d,c,e,n,o,b,h=>by
 rcases b with z|⟨k,g⟩;·lia
 ·rw[show r=6 by lia]at g;have:(10:Nat)^6=1000000:=⋯;lia
|f+1,r,d,c,e,n,o,b,h=>by
 rw[numberFrom]at h;cases j:c.next with
 |none=>
  rw[j]at h;dsimp only at h;split at h;·cases h;assumption
  ·cases h
 |some x=>
  rw[j]at h;dsimp only at h;split at h
  ·rename_i q;have l:=Dn q.2.2;refine Hs m f (r+1) _ c.on e n ∅ (.inr ⟨l,?_⟩) h;rcases b with z|⟨k,g⟩;·rw[z];have:=q.2.1;lia
   ·rw[uc];lia
  ·split at h;·cases h;assumption
   ·cases h
theorem JJ{b a:Nat}{c e:Cur}(d:a<=60000)(h:number b a c= .ok (n,e)):b<=n/\n<=a:=Hs d 6 0 0 c e n rfl (.inl rfl) h
theorem N3(a:List String)(i:Nat):ascii (a.getD i "")=(a.map ascii).getD i []:=by rw[z5,z5,z7];cases a[i]? with|none=>exact(∎:ascii ""=[]) |some w=>rfl
theorem UN{c:Type}(p:c->Bool)(d:c)(l:List c):(List.range l.length).find? (fun i=>p (l.getD i d))=l.findIdx? p:=by
 cases h:l.findIdx? p with
 |none=>
  rw[wx]at h;rw[xS];intro i b;have a:=zC.mp b;have:l.getD i d=l[i]:=by simp[z5,z4 a]
  rw[this,h _ (wo a)];decide
 |some i=>rw[yL]at h;obtain⟨b,k,g⟩:=h;rw[vN];refine⟨by simpa[z5,z4 b]using k,zC.mpr b,fun j f=>?_⟩;have e:j<l.length:=ue f b;have:=g j f;simpa[z5,z4 e]using this
structure Words(ws:List String):Prop where
 short:∀w∈(List.range ws.length).map fun(i:Nat)=>(i,ascii (ws.getD i "")),w.2.length<16
 apart:Apart ((List.range ws.length).map fun(i:Nat)=>(i,ascii (ws.getD i "")))
 ne:ws≠[]
theorem VR{a:List String}(W:Words a)(c:Cur):word a c=match(a.map ascii).findIdx? (fun b=>decide (shl b c.rest=b.length))with|some i=> .ok (i,⟨c.rest.drop ((a.map ascii).getD i []).length,c.at_+((a.map ascii).getD i []).length⟩) |none=> .error (c.at_+most ((a.map ascii).map fun b=>shl b c.rest)):=by
 unfold word;rw[Sl 16 _ c W.short W.apart (by intro z;have:=zT List.length z;rw[z3,yj]at this;exact W.ne (wH.mp this))];rw[List.find?_map];have e:(fits c.rest∘fun(i:Nat)=>(i,ascii (a.getD i "")))=fun i=>(fun b=>decide (shl b c.rest=b.length)) ((a.map ascii).getD i []):=by funext i;show decide (shl (ascii (a.getD i "")) c.rest=(ascii (a.getD i "")).length)=_;rw[N3]
 rw[e];have d:=UN (fun b:Bytes=>decide (shl b c.rest=b.length)) [] (a.map ascii);rw[z3]at d;rw[d];cases(a.map ascii).findIdx? (fun b=>decide (shl b c.rest=b.length))with
 |some i=>show Except.ok (i,(⟨c.rest.drop (ascii (a.getD i "")).length,c.at_+(ascii (a.getD i "")).length⟩:Cur))=_;rw[N3]
 |none=>
  show Except.error _=Except.error _;congr 2;rw[zG,zG];congr 1;apply vB;intro i;rw[z7,z7];by_cases hi:i<a.length;·rw[xh hi,z4 hi];show some (shl (ascii (a.getD i "")) c.rest)=some (shl (ascii a[i]) c.rest);rw[z5,z4 hi];rfl
  ·rw[xX ‹hi›,xX ‹hi›];rfl
theorem dN{a:List String}(W:Words a){c d:Cur}{i:Nat}(h:word a c= .ok (i,d)):i<a.length:=by rw[VR W]at h;cases q:(a.map ascii).findIdx? (fun b=>decide (shl b c.rest=b.length))with|none=>rw[q]at h;cases h|some j=>rw[q]at h;cases h;rw[yL]at q;obtain⟨e,Y⟩:=q;rw[z3]at e;exact e
def Uk:List (Bytes×List String)->Cur->Except Nat (List (Nat×Nat)×Cur) |[],c=> .ok ([],c) |x::r,c=>(lit x.1 c).bind fun c=>(word x.2 c).bind fun n=>(Uk r n.2).bind fun q=> .ok ((c.at_,n.1)::q.1,q.2)
def CH:List (Bytes×List String):=[(ascii "first ",["hunters","king"]),(ascii "\nking ",["steps","slides"]),([32],["bare","armed"]),([32],["two","four"]),(ascii "\nseat ",["barred","passed"]),([32],ENMITY),(ascii "\nexits ",ENMITY),(ascii "\ngoal ",["edge","exits"]),(ascii "\nthrice ",["drawn","hunters","king"])]
def dG(q:List (Nat×Nat))(i:Nat):Nat:=(q.getD i (0,0)).2
def qW(q:List (Nat×Nat))(i:Nat):Nat:=(q.getD i (0,0)).1
def mO(n:Bytes)(w h:Nat)(g:List (List Kind))(b:List Nat)(s:List (List Piece))(a:List Nat)(q:List (Nat×Nat))(l:Nat):Rules:=⟨n,w,h,g,b,s,a,dG q 0,dG q 1==1,dG q 2==1,dG q 3==1,dG q 4==1,dG q 5,dG q 6,dG q 7,qW q 7,dG q 8,l⟩
def jZ(b:Bytes):Except Nat Rules:=(lit (ascii "tafl ") ⟨b,0⟩).bind fun c=>(nameIn c).bind fun n=>(lit [32] n.2).bind fun c=>(number 5 13 c).bind fun w=>(lit [32] w.2).bind fun c=>(number 5 13 c).bind fun h=>(lit (ascii "\nground\n") h.2).bind fun c=>(rowsIn kindSign w.1 h.1 c).bind fun g=>(lit (ascii "start\n") g.2.2).bind fun c=>(rowsIn pieceSign w.1 h.1 c).bind fun s=>(Uk CH s.2.2).bind fun q=>(lit (ascii "\nlimit ") q.2).bind fun c=>(number 1 60000 c).bind fun l=>(lit [LF] l.2).bind fun c=>if c.rest=[]then .ok (mO n.1 w.1 h.1 g.1 g.2.1 s.1 s.2.1 q.1 l.1)else .error c.at_
theorem bind_assoc{c b d:Type}(r:Except Nat c)(f:c->Except Nat b)(g:b->Except Nat d):(r.bind f).bind g=r.bind fun a=>(f a).bind g:=by cases r<;>rfl
theorem f_(b:Bytes):grammar b=jZ b:=by unfold jZ CH;simp only[Uk,bind_assoc];rfl
theorem cW:∀(l:List (Bytes×List String))(_:∀x∈l,Words x.2)(c d:Cur)(q:List (Nat×Nat)),Uk l c= .ok (q,d)->∀i,i<l.length->dG q i<(l.getD i ([],[])).2.length|[],_,c,d,q,h,i,b=>by cases b|x::r,j,c,d,q,h,i,b=>by rw[Uk]at h;cases k:lit x.1 c with|error e=>rw[k]at h;cases h|ok a=>rw[k]at h;replace h:((word x.2 a).bind fun n=>(Uk r n.2).bind fun q=> .ok ((a.at_,n.1)::q.1,q.2))= .ok (q,d):=h;cases g:word x.2 a with|error e=>rw[g]at h;cases h|ok n=>rw[g]at h;replace h:((Uk r n.2).bind fun q=> .ok ((a.at_,n.1)::q.1,q.2))= .ok (q,d):=h;cases f:Uk r n.2 with|error e=>rw[f]at h;cases h|ok z=>rw[f]at h;cases h;cases i with|zero=>exact dN (j x zh) (i:=n.1) (d:=n.2) g|succ i=>exact cW r (fun y m=>j y (zg _ m)) n.2 z.2 z.1 f i ‹b›
theorem Rl:∀x∈CH,Words x.2:=by have i:Words ["hunters","king"]:=⟨∎,by unfold Apart;decide+kernel,⋯⟩;have h:Words ["steps","slides"]:=⟨∎,by unfold Apart;decide+kernel,⋯⟩;have g:Words ["bare","armed"]:=⟨∎,by unfold Apart;decide+kernel,⋯⟩;have f:Words ["two","four"]:=⟨∎,by unfold Apart;decide+kernel,⋯⟩;have e:Words ["barred","passed"]:=⟨∎,by unfold Apart;decide+kernel,⋯⟩;have d:Words ENMITY:=⟨∎,by unfold Apart;decide+kernel,⋯⟩;have c:Words ["edge","exits"]:=⟨∎,by unfold Apart;decide+kernel,⋯⟩;have b:Words ["drawn","hunters","king"]:=⟨∎,by unfold Apart;decide+kernel,⋯⟩;intro x a;simp only[CH,zw,List.not_mem_nil,or_false]at a;rcases a with rfl|rfl|rfl|rfl|rfl|rfl|rfl|rfl|rfl<;>assumption
theorem DE:∀(l:List Nat)(a c:Nat),(l.foldl (fun(n c:Nat)=>n|||2^c) a).testBit c=(a.testBit c||decide (c∈l))
|[],a,c=>by simp
|x::l,a,c=>by
 rw[ym,DE l,Nat.testBit_or,Nat.testBit_two_pow];by_cases h:x=c;·subst h;simp
 ·have b:¬c=x:=fun q=>h q.symm;simp[h,b]
theorem BC(l:List Nat)(c:Nat):(setFrom l).testBit c=decide (c∈l):=by unfold setFrom;rw[DE];simp
def D5(c:Nat):Piece:=if c=104 then .hunter else if c=109 then .man else if c=75 then .king else .none
def Bk(s:Nat)(b:List Nat):List Nat:=(List.range b.length).filter fun i=>b.getD i 0==s
theorem BV{s:Nat}:c∈Bk s b↔c<b.length/\b.getD c 0=s:=by unfold Bk;rw[zS,zC,zP]
structure AZ(b:List Nat):Prop where
 len:b.length=169
 sign:∀c,c<169->b.getD c 0=46\/b.getD c 0=104\/b.getD c 0=109\/b.getD c 0=75
 one:∀c d,c<169->d<169->b.getD c 0=75->b.getD d 0=75->c=d
def Bv(b:List Nat):Nat:=((Bk 75 b).head?).getD TAKEN
def Aq(b:List Nat)(turn:Nat):Pos:=⟨setFrom (Bk 104 b),setFrom (Bk 109 b),Bv b,turn⟩
theorem AZ.Bg(B:AZ b)(g:c<169):Bv b=c↔b.getD c 0=75:=by
 unfold Bv;constructor;·intro h;cases e:(Bk 75 b).head? with|none=>rw[e]at h;have:(255:Nat)=c:=h;lia|some d=>rw[e]at h;have:d=c:=h;subst this;exact(BV.mp (vz e)).2
 ·intro h;have f:c∈Bk 75 b:=BV.mpr ⟨by rw[B.len];exact g,h⟩;cases e:(Bk 75 b).head? with|none=>rw[List.head?_eq_none_iff]at e;rw[e]at f;cases f|some d=>have a:=BV.mp (vz e);rw[B.len]at a;exact B.one d c a.1 g a.2 h
theorem AZ.CG(B:AZ b):Bv b=TAKEN↔∀c,c<169->b.getD c 0≠75:=by
 constructor;·intro h c f e;have:=(B.Bg f).mpr e;rw[h]at this;have:(255:Nat)=c:=this;lia
 ·intro h;unfold Bv;cases e:(Bk 75 b).head? with|none=>rfl|some d=>have a:=BV.mp (vz e);rw[B.len]at a;exact absurd a.2 (h d a.1)
theorem AZ.L8(B:AZ b):Bv b=TAKEN\/Bv b<169:=by unfold Bv;cases e:(Bk 75 b).head? with|none=>exact .inl rfl|some d=>have a:=BV.mp (vz e);rw[B.len]at a;exact .inr a.1
theorem AZ.on(B:AZ b)(t:Nat)(a:c<169):(Aq b t).on c=D5 (b.getD c 0):=by
 have m:∀s,(setFrom (Bk s b)).testBit c=decide (b.getD c 0=s):=fun s=>by rw[BC];congr 1;rw[BV,B.len];simp[a]
 unfold Pos.on Aq;cbv;rw[m,m];rcases B.sign c a with h|h|h|h;·rw[zb (fun q=>by have:=(B.Bg a).mp q;lia)];rw[h];rfl
 ·rw[zb (fun q=>by have:=(B.Bg a).mp q;lia)];rw[h];rfl
 ·rw[zb (fun q=>by have:=(B.Bg a).mp q;lia)];rw[h];rfl
 ·rw[zc ((B.Bg a).mpr h)];rw[h];rfl
theorem AZ.bit(B:AZ b)(s:Nat)(c:Nat):(setFrom (Bk s b)).testBit c=decide (c<169/\b.getD c 0=s):=by rw[BC];congr 1;rw[BV,B.len]
theorem XI{d:List Nat}{t u:Nat}(B:AZ b)(D:AZ d)(h:Aq b t=Aq d u):b=d/\t=u:=by
 unfold Aq at h;injection h with h1 h2 h3 h4;refine⟨?_,h4⟩;apply xJ;·rw[B.len,D.len]
 ·intro c e f;have a:c<169:=by rw[<-B.len];exact e
  have j:b.getD c 0=b[c]:=by rw[z5,z4 e];rfl
  have i:d.getD c 0=d[c]:=by rw[z5,z4 f];rfl
  rw[<-j,<-i];have m:(b.getD c 0=104)↔(d.getD c 0=104):=by have:=zT (fun n=>n.testBit c) h1;simp only[B.bit,D.bit,a,sM]at this;simpa using this
  have l:(b.getD c 0=109)↔(d.getD c 0=109):=by have:=zT (fun n=>n.testBit c) h2;simp only[B.bit,D.bit,a,sM]at this;simpa using this
  have k:(b.getD c 0=75)↔(d.getD c 0=75):=by rw[<-B.Bg a,<-D.Bg a,h3]
  rcases B.sign c a with h|h|h|h<;>rcases D.sign c a with g|g|g|g<;>lia
theorem FY{t:Nat}{p:Pos}(B:AZ b)(h:∀c,p.hunters.testBit c=decide (c<169/\b.getD c 0=104))(g:∀c,p.men.testBit c=decide (c<169/\b.getD c 0=109))(d:p.king=Bv b)(a:p.side=t):p=Aq b t:=by
 obtain⟨f,e,l,k⟩:=p;unfold Aq;have j:f=setFrom (Bk 104 b):=sW fun c=>by rw[B.bit];exact h c
 have i:e=setFrom (Bk 109 b):=sW fun c=>by rw[B.bit];exact g c
 rw[j,i];dsimp only at d a;rw[d,a]
def Dz(d:Nat):Int:=if d=1 then 1 else if d=3 then-1 else 0
def Dy(d:Nat):Int:=if d=0 then 1 else if d=2 then-1 else 0
def UZ(a b:Nat)(c d:Nat):Int:=if 0<=((c%13:Nat):Int)+Dz d/\((c%13:Nat):Int)+Dz d<a/\0<=((c/13:Nat):Int)+Dy d/\((c/13:Nat):Int)+Dy d<b then 13*(((c/13:Nat):Int)+Dy d)+(((c%13:Nat):Int)+Dz d)else-1
structure B0(r:Rules):Prop where
 w5:5<=r.wide
 KR:r.wide<=13
 h5:5<=r.high
 Vt:r.high<=13
theorem BH:r.isCell c=true↔c%13<r.wide/\c/13<r.high:=by show(decide (c%13<r.wide)&&decide (c/13<r.high))=true↔_;rw[zp,zq,zq]
theorem IQ(r:Rules)(d c:Nat):r.next d c=if d=0 then(if c/13+1<r.high then some (13*(c/13+1)+c%13)else none)else if d=1 then(if c%13+1<r.wide then some (13*(c/13)+(c%13+1))else none)else if d=2 then(if 0<c/13 then some (13*(c/13-1)+c%13)else none)else if 0<c%13 then some (13*(c/13)+(c%13-1))else none:=rfl
theorem B0.lt(Z:B0 r)(h:r.isCell c=true):c<169:=by have:=BH.mp h;have:=Z.Vt;lia
theorem BD(Z:B0 r)(h:r.isCell c=true)(e:r.next d c=some n):r.isCell n=true:=by
 obtain⟨b,a⟩:=BH.mp h;have:=Z.KR;rw[IQ]at e;rw[BH];split at e
 ·split at e;·cases e;constructor<;>lia
  ·cases e
 ·split at e
  ·split at e;·cases e;constructor<;>lia
   ·cases e
  ·split at e
   ·split at e;·cases e;constructor<;>lia
    ·cases e
   ·split at e;·cases e;constructor<;>lia
    ·cases e
theorem fy(Z:B0 r)(a:d<4)(h:r.isCell c=true):UZ r.wide r.high c d=match r.next d c with|some n=>(n:Int) |none=> -1:=by
 obtain⟨f,e⟩:=BH.mp h;have:=Z.KR;unfold UZ;rw[IQ];have b:c%13<13:=wV _ ⋯;match d,a with
 |0,_=>
  simp only[Dz,Dy,xj];by_cases q:c/13+1<r.high;·rw[zc (by simp;lia),zc q];cbv;simp
  ·rw[zb (by simp;lia),zb q]
 |1,_=>
  simp only[Dz,Dy,xj];by_cases q:c%13+1<r.wide;·rw[zc (by simp;lia)];simp only[uh,yW,zc q];simp
  ·rw[zb (by simp;lia)];simp only[uh,yW,zb q]
 |2,_=>
  simp only[Dz,Dy];by_cases q:0<c/13;·rw[zc (by simp;lia)];simp[q];lia
  ·rw[zb (by simp;lia)];simp[q]
 |3,_=>
  simp only[Dz,Dy];by_cases q:0<c%13;·rw[zc (by simp;lia)];simp[q];lia
  ·rw[zb (by simp;lia)];simp[q]
def room(r:Rules)(d c:Nat):Nat:=if d=0 then r.high-1-c/13 else if d=1 then r.wide-1-c%13 else if d=2 then c/13 else c%13
theorem ON(Z:B0 r)(h:r.isCell c=true)(e:r.next d c=some n):room r d n+1=room r d c:=by
 obtain⟨j,i⟩:=BH.mp h;have:=Z.KR;rw[IQ]at e;unfold room;split at e
 ·rename_i a;split at e;·cases e;simp only[a,xj];lia
  ·cases e
 ·rename_i g;split at e
  ·rename_i a;split at e;·cases e;simp only[a,uh,yW,xj];lia
   ·cases e
  ·rename_i f;split at e
   ·rename_i a;split at e;·cases e;subst a;simp;lia
    ·cases e
   ·rename_i b;split at e;·cases e;simp only[g,f,b,yW];lia
    ·cases e
theorem W1(Z:B0 r)(h:r.isCell c=true):room r d c<13:=by
 obtain⟨b,a⟩:=BH.mp h;have:=Z.KR;have:=Z.Vt;unfold room;split;·lia
 ·split;·lia
  ·split<;>lia
def Zb(r:Rules)(d:Nat):Nat->Nat->List Nat|0,_=>[] |f+1,c=>match r.next d c with|none=>[] |some n=>n::Zb r d f n
def Dir(d c n:Nat):Prop:=if d=0 then n%13=c%13/\c/13<n/13 else if d=1 then n/13=c/13/\c%13<n%13 else if d=2 then n%13=c%13/\n/13<c/13 else n/13=c/13/\n%13<c%13
theorem Dir.trans{a b:Nat}(h:Dir d a b)(g:Dir d b c):Dir d a c:=by
 unfold Dir at*;split at h;·simp_all;lia
 ·split at h;·simp_all;lia
  ·split at h;·simp_all;lia
   ·simp_all;lia
theorem Dir.ne{a b:Nat}(h:Dir d a b):a≠b:=by
 intro e;subst e;unfold Dir at h;split at h;·lia
 ·split at h;·lia
  ·split at h<;>lia
theorem Dir.apart{e a b:Nat}(f:d<4)(c:e<4)(h:Dir d a b)(g:Dir e a b):d=e:=by unfold Dir at h g;match d,f,e,c with|0,_,0,_=>rfl|1,_,1,_=>rfl|2,_,2,_=>rfl|3,_,3,_=>rfl|0,_,1,_=>simp at h g;lia|0,_,2,_=>simp at h g;lia|0,_,3,_=>simp at h g;lia|1,_,0,_=>simp at h g;lia|1,_,2,_=>simp at h g;lia|1,_,3,_=>simp at h g;lia|2,_,0,_=>simp at h g;lia|2,_,1,_=>simp at h g;lia|2,_,3,_=>simp at h g;lia|3,_,0,_=>simp at h g;lia|3,_,1,_=>simp at h g;lia|3,_,2,_=>simp at h g;lia
theorem MH(Z:B0 r)(a:d<4)(h:r.isCell c=true)(e:r.next d c=some n):Dir d c n:=by obtain⟨f,b⟩:=BH.mp h;have:=Z.KR;rw[IQ]at e;unfold Dir;match d,a with|0,_=>simp at e|-;lia|1,_=>simp at e|-;lia|2,_=>simp at e|-;lia|3,_=>simp at e|-;lia
theorem IE(Z:B0 r)(i:d<4):∀(f c n:Nat),r.isCell c=true->n∈Zb r d f c->r.isCell n=true/\Dir d c n
|0,c,n,_,h=>by cases h
|f+1,c,n,j,h=>by
 unfold Zb at h;split at h;·cases h
 ·rename_i m e;have g:=BD Z j e;have k:=MH Z i j e;rcases zw.mp h with rfl|h;·exact⟨g,k⟩
  ·obtain⟨a,b⟩:=IE Z i f m n g h;exact⟨a,k.trans b⟩
theorem OP(Z:B0 r)(b:d<4):∀(f c:Nat),r.isCell c=true->(Zb r d f c).Nodup
|0,_,_=>wa
|f+1,c,g=>by
 unfold Zb;split;·exact wa
 ·rename_i m e;have a:=BD Z g e;refine xV.mpr ⟨fun h=>(IE Z b f m m a h).2.ne rfl,OP Z b f m a⟩
theorem W3(Z:B0 r){d:Nat}:∀(f c:Nat),r.isCell c=true->(Zb r d f c).length<=room r d c
|0,_,_=>zx _
|f+1,c,a=>by
 unfold Zb;split;·exact zx _
 ·rename_i m e;have b:=BD Z a e;have h:=W3 Z (d:=d) f m b;have g:=ON Z a e;simp only[zm];lia
theorem Qu{p:Pos}:∀(f c:Nat),(r.manWay p d f c).Sublist (Zb r d f c)
|0,_=>List.Sublist.slnil
|f+1,c=>by
 unfold Rules.manWay Zb;cases e:r.next d c with
 |none=>exact xI _
 |some m=>
  cbv;split;·exact xI _
  ·split;·exact xI _
   ·split;·exact(Qu f m).cons _
    ·exact xI _
   ·exact(Qu f m).cons_cons _
theorem SG{p:Pos}:∀(f c:Nat),(r.kingWay p d f c).Sublist (Zb r d f c)
|0,_=>List.Sublist.slnil
|f+1,c=>by
 unfold Rules.kingWay Zb;cases e:r.next d c with
 |none=>exact xI _
 |some m=>
  cbv;split;·exact xI _
  ·split;·exact(SG f m).cons_cons _
   ·exact(xI _).cons_cons _
abbrev DW(r:Rules)(p:Pos)(c d:Nat):List Nat:=if p.king=c then r.kingWay p d STRIDE c else r.manWay p d STRIDE c
theorem Ie{p:Pos}:(DW r p c d).Sublist (Zb r d 13 c):=by
 unfold DW;split;·exact SG 13 c
 ·exact Qu 13 c
theorem M5(r:Rules)(p:Pos)(c:Nat):r.reach p c=DW r p c 0++(DW r p c 1++(DW r p c 2++DW r p c 3)):=by unfold Rules.reach WAYS;simp only[xa,List.flatMap_nil,zR]
theorem HJ(Z:B0 r){p:Pos}(b:r.isCell c=true)(h:n∈r.reach p c):r.isCell n=true/\c≠n:=by
 have g:∀d,d<4->n∈DW r p c d->r.isCell n=true/\c≠n:=fun d a h=>by have:=IE Z a 13 c n b (Ie.subset h);exact⟨this.1,this.2.ne⟩
 rw[M5]at h;rcases zD.mp h with h|h;·exact g 0 ⋯ h
 rcases zD.mp h with h|h;·exact g 1 ⋯ h
 rcases zD.mp h with h|h;·exact g 2 ⋯ h
 ·exact g 3 ⋯ h
theorem K4(Z:B0 r){p:Pos}(j:r.isCell c=true):(r.reach p c).Nodup:=by
 have g:∀d,d<4->(DW r p c d).Nodup:=fun d h=>Ie.nodup (OP Z h 13 c j);have f:∀d e,d<4->e<4->d≠e->∀x,x∈DW r p c d->∀y,y∈DW r p c e->x≠y:=fun d e h k i x b y a q=>by subst q;exact i ((IE Z h 13 c x j (Ie.subset b)).2.apart h k (IE Z k 13 c x j (Ie.subset a)).2)
 rw[M5,yZ,yZ,yZ];refine⟨g 0 ⋯,⟨g 1 ⋯,⟨g 2 ⋯,g 3 ⋯,f 2 3 ⋯ ⋯ ⋯⟩,fun x b y a=>?_⟩,fun x b y a=>?_⟩
 ·rcases zD.mp a with a|a;·exact f 1 2 ⋯ ⋯ ⋯ x b y a
  ·exact f 1 3 ⋯ ⋯ ⋯ x b y a
 ·rcases zD.mp a with a|a;·exact f 0 1 ⋯ ⋯ ⋯ x b y a
  rcases zD.mp a with a|a;·exact f 0 2 ⋯ ⋯ ⋯ x b y a
  ·exact f 0 3 ⋯ ⋯ ⋯ x b y a
theorem OO(Z:B0 r){p:Pos}(a:r.isCell c=true):(r.reach p c).length<=52:=by
 have g:∀d,(DW r p c d).length<=13:=fun d=>by have f:=(Ie (r:=r) (p:=p) (c:=c) (d:=d)).length_le;have e:=W3 Z (d:=d) 13 c a;have b:=W1 Z (d:=d) a;lia
 rw[M5,zd,zd,zd];have:=g 0;have:=g 1;have:=g 2;have:=g 3;lia
theorem Hi{l:List Nat}{c:List Int}(g:c.Perm (l.map fun(x:Nat)=>(x:Int)))(f:c.Pairwise (· <=·))(j:l.Nodup)(i:∀x∈l,x<n):c=((List.range n).filter fun t=>l.contains t).map fun(x:Nat)=>(x:Int):=by
 have d:(((List.range n).filter fun t=>l.contains t).map fun(x:Nat)=>(x:Int)).Pairwise (· <=·):=by rw[List.pairwise_map];refine(r9 _ (sE (n:=n))).imp fun{a b} h=>?_;lia
 have e:c.Perm (((List.range n).filter fun t=>l.contains t).map fun(x:Nat)=>(x:Int)):=by
  refine g.trans (List.Perm.map _ ?_);rw[w9 j (wW.filter _)];intro x;rw[zS,zC];constructor;·intro h;exact⟨i x h,‹h›⟩
  ·rintro⟨Y,h⟩;simpa using h
 exact List.Perm.eq_of_pairwise (fun a b Y Y m k=>Int.le_antisymm m k) f d e
def cJ(r:Rules)(b:List Nat)(c:Nat):Nat:=match r.kindAt c with| .exit=>r.exits| .seat=>if b.getD c 0=46 then r.seat else 0|_=>0
def stH(r:Rules)(b:List Nat):Option Nat->Bool|none=>false|some c=>b.getD c 0==109||(b.getD c 0==75&&r.armed) ||cJ r b c%2==1
def stM(r:Rules)(b:List Nat):Option Nat->Bool|none=>false|some c=>b.getD c 0==104||cJ r b c/2%2==1
def Na(r:Rules)(b:List Nat)(a d c:Nat):Bool:=if a≠104 then b.getD c 0==104&&stH r b (r.next d c)else if b.getD c 0=75/\r.four=true then(stM r b (r.next 0 c)&&stM r b (r.next 1 c)&&stM r b (r.next 2 c)&&stM r b (r.next 3 c))else(b.getD c 0==109||b.getD c 0==75)&&stM r b (r.next d c)
def DB(r:Rules)(b:List Nat)(t:Nat):List Nat:=if b.getD t 0=75/\r.armed=false then[]else WAYS.filterMap fun d=>match r.next d t with|none=>none|some c=>if Na r b (b.getD t 0) d c=true then some c else none
structure Of(r:Rules):Prop where
 s:r.seat<=3
 x:r.exits<=3
theorem WT{e:Nat}(h:e<=3):hates e false=(e%2==1):=by match e,h with|0,_=>rfl|1,_=>rfl|2,_=>rfl|3,_=>rfl
theorem WS{e:Nat}(h:e<=3):hates e true=(e/2%2==1):=by match e,h with|0,_=>rfl|1,_=>rfl|2,_=>rfl|3,_=>rfl
theorem L0(B:AZ b)(a:c<169):(D5 (b.getD c 0)==Piece.none)=(b.getD c 0==46):=by rcases B.sign c a with h|h|h|h<;>rw[h]<;>rfl
theorem OT(B:AZ b)(a:c<169):(D5 (b.getD c 0)==Piece.hunter)=(b.getD c 0==104):=by rcases B.sign c a with h|h|h|h<;>rw[h]<;>rfl
theorem aQ(B:AZ b)(a:c<169):(D5 (b.getD c 0)==Piece.man)=(b.getD c 0==109):=by rcases B.sign c a with h|h|h|h<;>rw[h]<;>rfl
theorem fi(B:AZ b)(a:c<169):(D5 (b.getD c 0)==Piece.king)=(b.getD c 0==75):=by rcases B.sign c a with h|h|h|h<;>rw[h]<;>rfl
theorem YS(N:Of r)(B:AZ b){t:Nat}(a:c<169):r.against (Aq b t) false c=(cJ r b c%2==1):=by
 unfold Rules.against cJ;cases r.kindAt c with
 |plain=>rfl
 |wall=>rfl
 |exit=>exact WT N.x
 |seat=>
  cbv;rw[B.on t a,L0 B a,WT N.s];by_cases h:b.getD c 0=46;·rw[zc h,h];simp
  ·rw[zb h];have:(b.getD c 0==46)=false:=by rw[zL];exact h
   rw[this];rfl
theorem YR(N:Of r)(B:AZ b){t:Nat}(a:c<169):r.against (Aq b t) true c=(cJ r b c/2%2==1):=by
 unfold Rules.against cJ;cases r.kindAt c with
 |plain=>simp
 |wall=>simp
 |exit=>exact WS N.x
 |seat=>
  cbv;rw[B.on t a,L0 B a,WS N.s];by_cases h:b.getD c 0=46;·rw[zc h,h];simp
  ·rw[zb h];have:(b.getD c 0==46)=false:=by rw[zL];exact h
   rw[this];rfl
theorem Zy(N:Of r)(B:AZ b)(t:Nat)(a:c<169):stH r b (some c)=decide (r.helps false ((Aq b t).on c)=true\/r.against (Aq b t) false c=true):=by rw[YS N B a,B.on t a];unfold stH Rules.helps;simp only[yD,yW];rw[aQ B a,fi B a];cases(b.getD c 0==109)<;>cases(b.getD c 0==75)<;>cases r.armed<;>cases(cJ r b c%2==1)<;>rfl
theorem stM_eq(N:Of r)(B:AZ b)(t:Nat)(a:c<169):stM r b (some c)=((Aq b t).on c== .hunter||r.against (Aq b t) true c):=by rw[YR N B a,B.on t a,OT B a];rfl
theorem Ov(N:Of r)(B:AZ b)(t:Nat)(a:c<169):stM r b (some c)=decide (r.helps true ((Aq b t).on c)=true\/r.against (Aq b t) true c=true):=by rw[stM_eq N B t a];unfold Rules.helps;simp only[xj];cases((Aq b t).on c==Piece.hunter)<;>cases r.against (Aq b t) true c<;>rfl
theorem DK(Z:B0 r)(h:r.isCell c=true)(e:r.next d c=some n):n<169:=Z.lt (BD Z h e)
theorem BO:(d,n)∈r.neighbours c↔d<4/\r.next d c=some n:=by
 unfold Rules.neighbours;rw[yA];constructor;·rintro⟨e,a,h⟩;cases q:r.next e c with|none=>rw[q]at h;cases h|some m=>rw[q]at h;cases h;refine⟨?_,q⟩;simp[WAYS]at a;lia
 ·rintro⟨b,h⟩;refine⟨d,?_,by rw[h];rfl⟩;simp[WAYS];lia
theorem SA{t:Nat}:n∈DB r b t↔¬(b.getD t 0=75/\r.armed=false)/\∃d,d<4/\r.next d t=some n/\Na r b (b.getD t 0) d n=true:=by
 unfold DB;split
 ·rename_i h;constructor;·intro q;cases q
  ·rintro⟨q,Y⟩;exact absurd h q
 ·rename_i h;rw[yA];constructor
  ·rintro⟨d,a,e⟩;refine⟨h,d,by simp[WAYS]at a;lia,?_⟩;cases q:r.next d t with
   |none=>rw[q]at e;cases e
   |some m=>
    rw[q]at e;dsimp only at e;split at e;·cases e;exact⟨rfl,by assumption⟩
    ·cases e
  ·rintro⟨Y,d,a,f,c⟩;refine⟨d,by simp[WAYS];lia,?_⟩;rw[f];cbv;rw[zc c]
theorem WV(Z:B0 r)(N:Of r)(B:AZ b)(t:Nat)(o:r.isCell c=true):((r.neighbours c).length==4&&(r.neighbours c).all fun(m:Nat×Nat)=>(Aq b t).on m.2== .hunter||r.against (Aq b t) true m.2)=(stM r b (r.next 0 c)&&stM r b (r.next 1 c)&&stM r b (r.next 2 c)&&stM r b (r.next 3 c)):=by have g:∀d n,r.next d c=some n->stM r b (some n)=((Aq b t).on n== .hunter||r.against (Aq b t) true n):=fun d n e=>stM_eq N B t (DK Z o e);unfold Rules.neighbours WAYS;simp only[yu,List.filterMap_nil];cases p:r.next 0 c with|none=>simp only[ug,stM,xM];cases h:r.next 1 c<;>cases f:r.next 2 c<;>cases a:r.next 3 c<;>simp|some l=>cases h:r.next 1 c with|none=>simp only[ug,yE,stM,vm,xM];cases f:r.next 2 c<;>cases a:r.next 3 c<;>simp|some k=>cases f:r.next 2 c with|none=>simp only[ug,yE,stM,vm,xM];cases a:r.next 3 c<;>simp|some j=>cases a:r.next 3 c with|none=>simp[stM] |some i=>simp only[yE];rw[g 0 l p,g 1 k h,g 2 j f,g 3 i a];simp[qw]
theorem Xy(Z:B0 r)(N:Of r)(B:AZ b)(u:Nat){t:Nat}(x:r.isCell t=true)(F:b.getD t 0=104\/b.getD t 0=109\/b.getD t 0=75)(n:Nat):n∈DB r b t↔(n∈r.menTaken (Aq b u) (b.getD t 0==104) t\/((b.getD t 0==104)=true/\r.kingTaken (Aq b u) t=true/\n=(Aq b u).king)):=by
 have y:=Z.lt x;rw[SA];by_cases hh:b.getD t 0=104
 ·have A:(b.getD t 0==104)=true:=by rw[hh];rfl
  rw[A];unfold Rules.menTaken;rw[zb (by simp),yA];constructor
  ·rintro⟨Y,d,l,g,a⟩;have w:=BD Z x g;have o:=Z.lt w;unfold Na at a;rw[zb (by rw[hh];simp)]at a;by_cases p:b.getD n 0=75
   ·right;have D:(Aq b u).king=n:=(B.Bg o).mpr p;refine⟨rfl,?_,D.symm⟩;unfold Rules.kingTaken;rw[xq];exists(d,n),BO.mpr ⟨l,g⟩;cbv;rw[D,xG,wB];by_cases hf:r.four=true;·rw[zc hf,WV Z N B u w];rw[zc ⟨p,hf⟩]at a;exact a
    ·rw[zb hf];rw[zb (fun q=>hf q.2),p]at a;simp only[zp]at a;have i:=a.2;cases q:r.next d n with|none=>rw[q]at i;cases i|some m=>rw[q]at i;cbv;rw[<-stM_eq N B u (DK Z w q)];exact i
   ·left;rw[zb (fun q=>p q.1)]at a;simp only[zp,yt,zP]at a;have h:b.getD n 0=109:=a.1.resolve_right p;exists(d,n),BO.mpr ⟨l,g⟩;cbv;rw[zc (by rw[B.on u o,h];rfl)];have i:=a.2;cases q:r.next d n with|none=>rw[q]at i;cases i|some m=>rw[q,Ov N B u (DK Z w q)]at i;cbv;rw[zc (vt i)]
  ·rintro(⟨⟨d,c⟩,k,e⟩ |⟨Y,p,rfl⟩)
   ·obtain⟨l,g⟩:=BO.mp k;dsimp only at e;rw[zc (show true=true from rfl)]at e;split at e
    ·rename_i j;have s:=BD Z x g;have f:=Z.lt s;cases q:r.next d c with
     |none=>rw[q]at e;cases e
     |some m=>
      rw[q]at e;dsimp only at e;split at e;·rename_i z;cases e;exists∅,d,l,g;rw[B.on u f,aQ B f]at j;have h:b.getD n 0=109:=‹j›;unfold Na;rw[zb (by rw[hh];simp),zb (by rw[h];simp),q,Ov N B u (DK Z s q),h];simp only[xG,Bool.true_or,wB];exact zj z
      ·cases e
    ·cases e
   ·unfold Rules.kingTaken at p;rw[xq]at p;obtain⟨⟨d,c⟩,k,e⟩:=p;obtain⟨l,g⟩:=BO.mp k;dsimp only at e;rw[zp,zP]at e;obtain⟨E,e⟩:=e;have s:=BD Z x g;have f:=Z.lt s;have v:b.getD c 0=75:=(B.Bg f).mp E.symm;rw[<-E]at e|-;exists∅,d,l,g;unfold Na;rw[zb (by rw[hh];simp)];by_cases hf:r.four=true;·rw[zc hf,WV Z N B u s]at e;rw[zc ⟨v,hf⟩];exact e
    ·rw[zb hf]at e;rw[zb (fun q=>hf q.2),v];cases q:r.next d c with|none=>rw[q]at e;cases e|some m=>rw[q]at e;dsimp only at e;rw[stM_eq N B u (DK Z s q)];simpa using e
 ·have A:(b.getD t 0==104)=false:=by rw[zL];exact hh
  rw[A];unfold Rules.menTaken;have C:(Aq b u).king=t↔b.getD t 0=75:=B.Bg y;by_cases ha:b.getD t 0=75/\r.armed=false
  ·rw[zc ⟨rfl,C.mpr ha.1,ha.2⟩];constructor;·rintro⟨q,Y⟩;exact absurd ha q
   ·rintro(q|⟨q,Y⟩);·cases q
    ·cases q
  ·rw[zb (fun q=>ha ⟨C.mp q.2.1,q.2.2⟩),yA];constructor;·rintro⟨Y,d,l,g,a⟩;have w:=BD Z x g;have o:=Z.lt w;unfold Na at a;rw[zc hh,zp,zP]at a;left;exists(d,n),BO.mpr ⟨l,g⟩;cbv;rw[zc (by rw[B.on u o,a.1];rfl)];have i:=a.2;cases q:r.next d n with|none=>rw[q]at i;cases i|some m=>rw[q,Zy N B u (DK Z w q)]at i;cbv;rw[zc (vt i)]
   ·rintro(⟨⟨d,c⟩,k,e⟩ |⟨q,Y⟩)
    ·obtain⟨l,g⟩:=BO.mp k;dsimp only at e;rw[zb (show¬(false=true) by decide)]at e;split at e
     ·rename_i j;have s:=BD Z x g;have f:=Z.lt s;cases q:r.next d c with
      |none=>rw[q]at e;cases e
      |some m=>
       rw[q]at e;dsimp only at e;split at e;·rename_i z;cases e;exists ha,d,l,g;rw[B.on u f,OT B f]at j;unfold Na;rw[zc hh,j,q,Zy N B u (DK Z s q),wB];exact zj z
       ·cases e
     ·cases e
    ·cases q
def DS(b:List Nat)(a c:Nat):List Nat:=(b.set c (b.getD a 0)).set a 46
def TV(b:List Nat)(l:List Nat):List Nat:=l.foldl (fun b c=>b.set c 46) b
theorem JY(l:List Nat)(i j x:Nat):(l.set i x).getD j 0=if i=j/\i<l.length then x else l.getD j 0:=by
 rw[z5,z5,uV];by_cases h:i=j
 ·subst h;by_cases q:i<l.length;·simp[q]
  ·simp[q]
 ·simp[h]
theorem LB:∀(l b:List Nat),(TV b l).length=b.length|[],b=>rfl|c::l,b=>by show(TV (b.set c 46) l).length=_;rw[LB l,yP]
theorem E8:∀(l b:List Nat)(j:Nat),(TV b l).getD j 0=if j∈l/\j<b.length then 46 else b.getD j 0
|[],b,j=>by simp[TV]
|c::l,b,j=>by
 show(TV (b.set c 46) l).getD j 0=_;rw[E8 l,yP,JY];by_cases h1:j<b.length
 ·by_cases h2:j∈l;·rw[zc ⟨h2,h1⟩,zc ⟨zg _ h2,h1⟩]
  ·rw[zb (fun q=>h2 q.1)];by_cases h3:c=j;·subst h3;rw[zc ⟨rfl,h1⟩,zc ⟨zh,h1⟩]
   ·rw[zb (fun q=>h3 q.1),zb];rintro⟨q,Y⟩;rcases zw.mp q with q|q;·exact h3 q.symm
    ·exact h2 q
 ·have e:¬(j∈l/\j<b.length):=fun q=>h1 q.2;have d:¬(j∈c::l/\j<b.length):=fun q=>h1 q.2;have a:¬(c=j/\c<b.length):=fun q=>h1 (q.1▸q.2);rw[zb e,zb d,zb a]
structure YV(b:List Nat)(t m1 m2:Nat):Prop where
 tt:t<=1
 l1:m1<169
 l2:m2<169
 ne:m1≠m2
 own:(t=0/\b.getD m1 0=104)\/(t=1/\(b.getD m1 0=109\/b.getD m1 0=75))
 qy:b.getD m2 0=46
theorem Du(B:AZ b){t a c:Nat}(M:YV b t a c)(j:Nat):(DS b a c).getD j 0=if j=a then 46 else if j=c then b.getD a 0 else b.getD j 0:=by
 unfold DS;rw[JY,JY,yP,B.len];have:=M.l1;have:=M.l2;by_cases h1:a=j;·subst h1;have e:a=a/\a<169:=⟨rfl,by assumption⟩;rw[zc e,zc rfl]
 ·have e:¬(a=j/\a<169):=fun q=>h1 q.1;have g:¬j=a:=fun q=>h1 q.symm;rw[zb e,zb g];by_cases h2:c=j;·subst h2;have d:c=c/\c<169:=⟨rfl,by assumption⟩;rw[zc d,zc rfl]
  ·have d:¬(c=j/\c<169):=fun q=>h2 q.1;have f:¬j=c:=fun q=>h2 q.symm;rw[zb d,zb f]
theorem GL(B:AZ b){t f h:Nat}(M:YV b t f h):AZ (DS b f h):=by
 refine⟨by unfold DS;rw[yP,yP,B.len],fun c g=>?_,fun c d g i e a=>?_⟩
 ·rw[Du B M];split;·exact .inl rfl
  ·split;·exact B.sign f M.l1
   ·exact B.sign c g
 ·rw[Du B M]at e a;split at e;·cases e
  ·split at a;·cases a
   ·split at e
    ·split at a;·lia
     ·have:=B.one f d M.l1 i e a;lia
    ·split at a;·have:=B.one c f g M.l1 e a;lia
     ·exact B.one c d g i e a
theorem P8(B:AZ b)(l:List Nat):AZ (TV b l):=by
 refine⟨by rw[LB,B.len],fun c f=>?_,fun c d f g e a=>?_⟩
 ·rw[E8];split;·exact .inl rfl
  ·exact B.sign c f
 ·rw[E8]at e a;split at e;·cases e
  ·split at a;·cases a
   ·exact B.one c d f g e a
theorem Gd:c∈cellsIn n↔c<192/\n.testBit c=true:=by unfold cellsIn;rw[zS,zC];rfl
theorem Mn(B:AZ b){t d f:Nat}(M:YV b t d f):(Aq b t).shifted (d,f)=Aq (DS b d f) (1-t):=by
 have l:=GL B M;have F:=M.l1;have A:=M.l2;have u:Bv (DS b d f)=if b.getD d 0=75 then f else Bv b:=by
  split;·rename_i h;rw[l.Bg A,Du B M,zb (fun q=>M.ne q.symm),zc rfl,h]
  ·rename_i h;rcases B.L8 with q|q
   ·rw[q,l.CG];intro c D e;rw[Du B M]at e;split at e;·cases e
    ·split at e;·exact h e
     ·exact(B.CG.mp q) c D e
   ·obtain⟨k,i⟩:∃k,k=Bv b:=⟨_,rfl⟩;rw[<-i]at q|-;have v:b.getD k 0=75:=(B.Bg q).mp i.symm;rw[l.Bg q,Du B M,zb (fun z=>h (by rw[<-z];exact v)),zb (fun z=>by have:=M.qy;rw[<-z,v]at this;cases this),v]
 have m:∀s,s≠46->∀c,(setFrom (f::(cellsIn (setFrom (Bk s b))).filter fun(c:Nat)=>c !=d)).testBit c=decide (c<169/\(if c=d then 46 else if c=f then s else b.getD c 0)=s):=fun s p c=>by
  rw[BC];congr 1;simp only[zw,zS,Gd,B.bit,zJ,bne_iff_ne,rk];constructor
  ·rintro(rfl|⟨⟨Y,x,j⟩,w⟩);·exact⟨A,by rw[zb (fun q=>M.ne q.symm),zc rfl]⟩
   ·refine⟨x,?_⟩;rw[zb w];split;·rfl
    ·exact j
  ·rintro⟨x,j⟩;split at j;·exact absurd j.symm p
   ·rename_i w;split at j;·rename_i E;exact .inl E
    ·exact .inr ⟨⟨∅,x,j⟩,w⟩
 have a:∀s,s≠46->b.getD d 0≠s->∀c,(setFrom (Bk s b)).testBit c=decide (c<169/\(DS b d f).getD c 0=s):=fun s p o c=>by
  rw[B.bit];congr 1;rw[Du B M,rk];constructor;·rintro⟨r,g⟩;refine⟨r,?_⟩;rw[zb (fun q=>o (by rw[<-q];exact g)),zb (fun q=>by have:=M.qy;rw[<-q,g]at this;exact p this)];exact g
  ·rintro⟨r,g⟩;refine⟨r,?_⟩;split at g;·exact absurd g.symm p
   ·split at g;·exact absurd g o
    ·exact g
 have y:(Aq b t).king=d↔b.getD d 0=75:=B.Bg F;unfold Pos.shifted;by_cases i:b.getD d 0=75
 ·have n:t=1:=by
   rcases M.own with⟨Y,q⟩ |⟨q,Y⟩;·lia
   ·exact q
  subst n;rw[zc (y.mpr i)];refine FY l (a 104 ⋯ ∅) (a 109 ⋯ ∅) ?_ rfl;rw[u,zc i]
 ·rw[zb (fun q=>i (y.mp q))];rcases M.own with⟨n,q⟩ |⟨n,q⟩
  ·subst n;rw[zc (show(Aq b 0).side=0 from rfl)];refine FY l (fun c=>?_) (a 109 ⋯ ∅) ?_ rfl;·show(setFrom (f::(cellsIn (setFrom (Bk 104 b))).filter fun(c:Nat)=>c !=d)).testBit c=_;rw[m 104 ⋯ c,Du B M,q]
   ·show Bv b=_;rw[u,zb i]
  ·have C:b.getD d 0=109:=q.resolve_right i;subst n;rw[zb (show¬(Aq b 1).side=0 from(⋯:¬(1:Nat)=0))];refine FY l (a 104 ⋯ ∅) (fun c=>?_) ?_ rfl;·show(setFrom (f::(cellsIn (setFrom (Bk 109 b))).filter fun(c:Nat)=>c !=d)).testBit c=_;rw[m 109 ⋯ c,Du B M,C]
   ·show Bv b=_;rw[u,zb i]
theorem PQ(Z:B0 r){t:Nat}(a:r.isCell t=true)(h:n∈DB r b t):n<169:=by obtain⟨Y,d,Y,e,Y⟩:=SA.mp h;exact DK Z a e
theorem LQ(Z:B0 r)(N:Of r)(B:AZ b){t d a:Nat}(M:YV b t d a)(l:r.isCell a=true):r.takes (Aq b t) (d,a)=(List.range 192).filter fun c=>(DB r (DS b d a) a).contains c:=by
 have m:=GL B M;have j:(DS b d a).getD a 0=b.getD d 0:=by rw[Du B M,zb (fun q=>M.ne q.symm),zc rfl]
 have i:((Aq b t).side==0)=((DS b d a).getD a 0==104):=by
  rw[j];rcases M.own with⟨h,q⟩ |⟨h,q⟩;·rw[h,q];rfl
  ·rw[h];rcases q with q|q<;>rw[q]<;>rfl
 have k:(DS b d a).getD a 0=104\/(DS b d a).getD a 0=109\/(DS b d a).getD a 0=75:=by
  rw[j];rcases M.own with⟨Y,q⟩ |⟨Y,q⟩;·exact .inl q
  ·exact .inr q
 unfold Rules.takes;simp only;rw[Mn B M];show List.filter _ (List.range 192)=_;apply vA;intro c Y;have:=Xy Z N m (1-t) l k c;rw[i];rw[zZ];simp only[yt,zp,zP,xY];rw[this];constructor
 ·rintro(q|⟨⟨g,f⟩,e⟩);·exact .inl q
  ·exact .inr ⟨‹g›,f,e⟩
 ·rintro(q|⟨g,f,e⟩);·exact .inl q
  ·exact .inr ⟨⟨‹g›,f⟩,e⟩
theorem cU(Z:B0 r)(N:Of r)(B:AZ b){t d a:Nat}(M:YV b t d a)(u:r.isCell a=true):r.comes (Aq b t) (d,a)=Aq (TV (DS b d a) (DB r (DS b d a) a)) (1-t):=by
 have f:=GL B M;have n:=P8 f (DB r (DS b d a) a);have l:∀c,(r.takes (Aq b t) (d,a)).contains c=decide (c∈DB r (DS b d a) a):=fun c=>by
  rw[LQ Z N B M u,zZ,xY,zS,zC,xY,zq];constructor;·exact fun q=>q.2
  ·intro q;have:=PQ Z u q;exact⟨∅,q⟩
 unfold Rules.comes;simp only;rw[Mn B M];have i:∀s,s≠46->∀c,(setFrom ((cellsIn (setFrom (Bk s (DS b d a)))).filter fun(c:Nat)=>!(r.takes (Aq b t) (d,a)).contains c)).testBit c=decide (c<169/\(TV (DS b d a) (DB r (DS b d a) a)).getD c 0=s):=fun s w c=>by
  rw[BC];congr 1;rw[zS,Gd,f.bit,l,E8,f.len,rk];simp only[zJ,xD,yY];constructor;·rintro⟨⟨Y,m,j⟩,o⟩;exact⟨m,by rw[zb (fun q=>o q.1)];exact j⟩
  ·rintro⟨m,j⟩;split at j;·exact absurd j.symm w
   ·rename_i o;exact⟨⟨∅,m,j⟩,fun q=>o ⟨q,m⟩⟩
 refine FY n (i 104 ⋯) (i 109 ⋯) ?_ rfl;show(if(r.takes (Aq b t) (d,a)).contains (Bv (DS b d a))=true then TAKEN else Bv (DS b d a))=_;rw[l];rcases f.L8 with q|q
 ·rw[q];have:Bv (TV (DS b d a) (DB r (DS b d a) a))=TAKEN:=by
   rw[n.CG];intro c g e;rw[E8]at e;split at e;·cases e
   ·exact(f.CG.mp q) c g e
  rw[this];split<;>rfl
 ·obtain⟨k,p⟩:∃k,k=Bv (DS b d a):=⟨_,rfl⟩;rw[<-p]at q|-;have v:(DS b d a).getD k 0=75:=(f.Bg q).mp p.symm;by_cases hmem:k∈DB r (DS b d a) a
  ·rw[zc (zj hmem)];symm;rw[n.CG];intro c g e;rw[E8,f.len]at e;split at e;·cases e
   ·rename_i h;have:=f.one c k g q e v;rw[this]at h;exact h ⟨hmem,q⟩
  ·rw[zb (by rw[zq];exact hmem)];symm;rw[n.Bg q,E8,zb (fun z=>hmem z.1),v]
def Right(r:Rules)(b:List Nat):Prop:=∀c,c<169->b.getD c 0≠46->r.isCell c=true/\mayStand (D5 (b.getD c 0)) (r.kindAt c)=true
def NL(t s:Nat):Bool:=if t=0 then s==104 else s==109||s==75
def CI(r:Rules)(p:Pos)(c:Nat):List Nat:=(List.range 192).filter fun t=>(r.reach p c).contains t
def hX(r:Rules)(b:List Nat)(t:Nat):List (Nat×Nat):=(List.range 169).flatMap fun c=>if NL t (b.getD c 0)=true then(CI r (Aq b t) c).map fun e=>(c,e)else[]
theorem Ej{a b:Type}(p:a->Bool)(f:a->List b):∀l:List a,(l.filter p).flatMap f=l.flatMap fun x=>if p x=true then f x else[]
|[]=>rfl
|x::l=>by
 rw[wX,xa];split;·rw[xa,Ej p f l]
 ·rw[Ej p f l];rfl
theorem RZ(f:Nat->List (Nat×Nat))(h:∀c,169<=c->f c=[]):(List.range 192).flatMap f=(List.range 169).flatMap f:=by
 rw[show(192:Nat)=169+23 from rfl,qv,yd];have:((List.range 23).map fun x=>169+x).flatMap f=[]:=by rw[List.flatMap_eq_nil_iff];intro x a;obtain⟨y,Y,rfl⟩:=zk.mp a;exact h _ ∅
 rw[this,zR]
theorem jC(B:AZ b){t:Nat}(g:t<=1)(c:Nat)(e:c<192):(c∈(Aq b t).own↔c<169/\NL t (b.getD c 0)=true):=by
 unfold Pos.own;by_cases h:t=0;·subst h;rw[zc (show(Aq b 0).side=0 from rfl),Gd];show c<192/\(setFrom (Bk 104 b)).testBit c=true↔_;rw[B.bit,zq];unfold NL;simp[e]
 ·have f:t=1:=∅;subst f;rw[zb (show¬(Aq b 1).side=0 from(⋯:¬(1:Nat)=0)),zS,zC];show c<192/\((setFrom (Bk 109 b)).testBit c||c==Bv b)=true↔_;rw[B.bit,yt,zq,zP];unfold NL;simp only[uh,yW,yt,zP];constructor
  ·rintro⟨Y,⟨d,a⟩ |q⟩;·exact⟨d,.inl a⟩
   ·rcases B.L8 with k|k;·rw[k]at q;have:(255:Nat)=c:=q.symm;lia
    ·rw[<-q]at k;exact⟨k,.inr ((B.Bg k).mp q.symm)⟩
  ·rintro⟨d,a|a⟩;·exact⟨e,.inl ⟨d,a⟩⟩
   ·exact⟨e,.inr ((B.Bg d).mpr a).symm⟩
theorem aV(B:AZ b){t:Nat}(d:t<=1):(Aq b t).own=(List.range 192).filter fun c=>decide (c<169)&&NL t (b.getD c 0):=by
 have e:∃p:Nat->Bool,(Aq b t).own=(List.range 192).filter p:=by
  unfold Pos.own cellsIn;split;·exact⟨_,rfl⟩
  ·exact⟨_,rfl⟩
 obtain⟨p,e⟩:=e;rw[e];apply vA;intro c f;have a:=zC.mp f;have:=jC B d c a;rw[e,zS]at this;rw[zZ,zp,zq,<-this];simp[a]
theorem ML(B:AZ b){t:Nat}(a:t<=1):r.moves (Aq b t)=if r.ended (Aq b t)≠0 then[]else hX r b t:=by
 unfold Rules.moves;split;·rfl
 ·rw[aV B a,Ej,RZ _ fun c d=>by rw[zb (by intro q;rw[zp,zq]at q;lia)]];unfold hX;rw[rZ,rZ];congr 1
theorem MN{p:Pos}{e:Nat}:e∈CI r p c↔e<192/\e∈r.reach p c:=by unfold CI;rw[zS,zC,xY]
theorem IS{p:Pos}:∀(f c n:Nat),n∈r.manWay p d f c->r.free p n=true/\r.kindAt n= .plain
|0,c,n,h=>by cases h
|f+1,c,n,h=>by
 unfold Rules.manWay at h;cases e:r.next d c with
 |none=>rw[e]at h;cases h
 |some m=>
  rw[e]at h;dsimp only at h;split at h;·cases h
  ·rename_i b;have a:r.free p m=true:=‹b›;cases k:r.kindAt m with
   |exit=>rw[k]at h;cases h
   |seat=>
    rw[k]at h;dsimp only at h;split at h;·exact IS f m n h
    ·cases h
   |wall=>unfold Rules.free at a;rw[k]at a;cases a
   |plain=>
    rw[k]at h;dsimp only at h;rcases zw.mp h with rfl|h;·exact⟨a,k⟩
    ·exact IS f m n h
theorem Pg{p:Pos}:∀(f c n:Nat),n∈r.kingWay p d f c->r.free p n=true
|0,c,n,h=>by cases h
|f+1,c,n,h=>by
 unfold Rules.kingWay at h;cases e:r.next d c with
 |none=>rw[e]at h;cases h
 |some m=>
  rw[e]at h;dsimp only at h;split at h;·cases h
  ·rename_i b;have a:r.free p m=true:=‹b›;rcases zw.mp h with rfl|h;·exact a
   ·split at h;·exact Pg f m n h
    ·cases h
theorem UJ{p:Pos}(h:n∈r.reach p c):r.free p n=true/\(p.king≠c->r.kindAt n= .plain):=by
 unfold Rules.reach at h;rw[yH]at h;obtain⟨d,Y,h⟩:=h;split at h;·rename_i a;exact⟨Pg _ _ _ h,fun q=>absurd a q⟩
 ·exact⟨(IS _ _ _ h).1,fun Y=>(IS _ _ _ h).2⟩
theorem JI{t s:Nat}(a:t<=1)(h:NL t s=true):(t=0/\s=104)\/(t=1/\(s=109\/s=75)):=by
 unfold NL at h;split at h;·exact .inl ⟨by assumption,‹h›⟩
 ·refine .inr ⟨∅,‹h›⟩
theorem Qs(Z:B0 r)(B:AZ b)(R:Right r b){t:Nat}(k:t<=1){m1 m2:Nat}(h:(m1,m2)∈hX r b t):YV b t m1 m2/\r.isCell m1=true/\r.isCell m2=true/\mayStand (D5 (b.getD m1 0)) (r.kindAt m2)=true:=by
 unfold hX at h;rw[yH]at h;obtain⟨c,v,h⟩:=h;have d:=zC.mp v;split at h
 ·rename_i s;obtain⟨e,u,q⟩:=zk.mp h;cases q;obtain⟨Y,m⟩:=MN.mp u;have l:=JI k s;have i:b.getD m1 0≠46:=∅;obtain⟨o,y⟩:=R m1 d i;obtain⟨n,x⟩:=HJ Z o m;obtain⟨f,w⟩:=UJ m;have j:=Z.lt n;have a:b.getD m2 0=46:=by unfold Rules.free at f;rw[B.on t j,L0 B j,zp,zP]at f;exact f.2
  have g:r.kindAt m2≠ .wall:=by unfold Rules.free at f;rw[zp]at f;simpa using f.1
  exists⟨k,d,j,x,l,a⟩,o,n;by_cases hk:b.getD m1 0=75;·rw[hk];show mayStand .king _=true;cases e:r.kindAt m2<;>first|rfl|exact absurd e g
  ·have p:(Aq b t).king≠m1:=fun q=>hk ((B.Bg d).mp q);rw[w p];rcases l with⟨Y,q⟩ |⟨Y,q|q⟩;·rw[q];rfl
   ·rw[q];rfl
   ·exact absurd q hk
 ·cases h
theorem TR(Z:B0 r)(B:AZ b)(R:Right r b){t:Nat}(i:t<=1){f e:Nat}(h:(f,e)∈hX r b t)(l:List Nat):Right r (TV (DS b f e) l):=by
 obtain⟨M,Y,m,k⟩:=Qs Z B R i h;intro c j a;rw[E8]at a|-;split at a;·exact absurd rfl a
 ·rename_i q;rw[zb q];rw[Du B M]at a|-;split at a;·exact absurd rfl a
  ·rename_i g;rw[zb g];split at a;·rename_i d;rw[zc d,d];exact⟨m,k⟩
   ·rename_i d;rw[zb d];exact R c j a
def NB(r:Rules)(b:List Nat)(m:Nat×Nat):List Nat:=TV (DS b m.1 m.2) (DB r (DS b m.1 m.2) m.2)
theorem dg(Z:B0 r)(N:Of r)(B:AZ b)(R:Right r b){t:Nat}(a:t<=1){m:Nat×Nat}(h:m∈hX r b t):AZ (NB r b m)/\Right r (NB r b m)/\r.comes (Aq b t) m=Aq (NB r b m) (1-t):=by obtain⟨e,d⟩:=m;obtain⟨M,Y,c,Y⟩:=Qs Z B R a h;exact⟨P8 (GL B M) _,TR Z B R a h _,cU Z N B M c⟩
theorem Xi{a:Nat}(b:1<=d):begins 1 a d=true↔d<=a:=by
 constructor;·exact Dn
 ·intro h;unfold begins;rw[xq];exact⟨0,⋯,by simp;lia⟩
theorem T7{x:UInt8}(h:isDigit x=true):x.toNat-48<=9:=by unfold isDigit at h;simp only[zp,zJ]at h;lia
theorem UE{a:Nat}(m:a<=13)(c:Cur):number 1 a c=runIn a c:=by
 unfold number runIn;rw[numberFrom];cases r:c.next with
 |none=>simp
 |some x=>
  cbv;by_cases q:isDigit x=true/\1<=x.toNat-48/\x.toNat-48<=a
  ·rw[zc ⟨q.1,∅,by rw[ud,xQ];exact(Xi q.2.1).mpr q.2.2⟩,zc q,ud,xQ,numberFrom];have h:=T7 q.1;generalize x.toNat-48=d at q h;cases p:c.on.next with
   |none=>simp[q.2.1,q.2.2]
   |some y=>
    cbv;by_cases z:isDigit y=true/\d=1/\10+(y.toNat-48)<=a;·have l:=T7 z.1;rw[zc ⟨z.1,∅,(Xi ∅).mpr ∅⟩,zc z];rw[show 10*d+(y.toNat-48)=10+(y.toNat-48) by lia,numberFrom];obtain⟨n,k⟩:∃n,n=10+(y.toNat-48):=⟨_,rfl⟩;rw[<-k]at z|-;have f:(1:Nat)<=n/\n<=a:=⟨∅,z.2.2⟩;have i:10<=n:=∅;cases o:c.on.on.next with|none=>simp[f] |some u=>cbv;rw[zb,zc f];rintro⟨Y,Y,g⟩;have:=Dn g;lia
    ·rw[zb,zb z,zc ⟨q.2.1,q.2.2⟩];rintro⟨e,j,b⟩;have:=Dn b;exact z ⟨e,∅,∅⟩
  ·rw[zb q,zb,zb ∅];rintro⟨e,j,b⟩;have:=Dn b;exact q ⟨e,∅,∅⟩
def CP(a:Nat)(f b:Bool)(c:Cur):Except Nat (List (Nat×Nat)×Cur):=match c.next with|none=> .error c.at_|some x=>if x=104 then .ok ([(104,c.at_)],c.on)else if x=109 then .ok ([(109,c.at_)],c.on)else if x=75/\b=false then .ok ([(75,c.at_)],c.on)else if f=true then .error c.at_ else match runIn a c with| .error e=> .error e| .ok (n,d)=> .ok (List.replicate n (46,c.at_),d)
def fk(w h o:Nat)(z:Nat×Nat):List (Piece×Nat×Nat):=if z.1=46 then[]else[(D5 z.1,13*(h-1-o/w)+o%w,z.2)]
def Jt(w h:Nat):Nat->List (Nat×Nat)->List (Piece×Nat×Nat) |_,[]=>[] |o,z::r=>fk w h o z++Jt w h (o+1) r
theorem WC(w h:Nat):∀(a b:List (Nat×Nat))(o:Nat),Jt w h o (a++b)=Jt w h o a++Jt w h (o+a.length) b|[],b,o=>rfl|z::a,b,o=>by rw[q0,Jt,Jt,WC w h a b (o+1),zX,zm];congr 3;lia
theorem Sk(w h p:Nat):∀(n o:Nat),Jt w h o (List.replicate n (46,p))=[] |0,_=>rfl|n+1,o=>by rw[yO,Jt,Sk w h p n];rfl
def BJ(b:Bytes):Nat->Bool|0=>false|q+1=>match b[q]? with|some u=>isDigit u|none=>false
def AH(b:Bytes)(p:Nat):Bool:=decide ((75:UInt8)∈b.take p)
theorem DX{b:Bytes}{p:Nat}{x:UInt8}(h:b[p]?=some x):BJ b (p+1)=isDigit x:=by show(match b[p]? with|some u=>isDigit u|none=>false)=_;rw[h]
theorem iG{b:Bytes}{p:Nat}(h:BJ b p=true):p<=b.length:=by cases p with|zero=>exact zx _|succ q=>replace h:(match b[q]? with|some u=>isDigit u|none=>false)=true:=h;cases e:b[q]? with|none=>rw[e]at h;cases h|some u=>exact(z8.mp e).1
theorem Cq{b:Bytes}{p:Nat}{x:UInt8}(h:b[p]?=some x):AH b (p+1)=(AH b p||(x==75)):=by
 unfold AH;rw[vy,h,zZ];simp only[xP,zD,zB,yt,zJ,zP];constructor
 ·rintro(z|z);·exact .inl z
  ·exact .inr z.symm
 ·rintro(z|z);·exact .inl z
  ·exact .inr z.symm
theorem CZ{b:Bytes}{p:Nat}:(⟨b.drop p,p⟩:Cur).next=b[p]?:=by unfold Cur.next;simp
theorem Ef{b:Bytes}{p:Nat}:(⟨b.drop p,p⟩:Cur).on=⟨b.drop (p+1),p+1⟩:=by unfold Cur.on;simp
theorem T6{x:UInt8}(h:isDigit x=true):(x==75)=false:=by unfold isDigit at h;simp only[zp,zJ]at h;rw[zL];intro e;subst e;have:(75:UInt8).toNat=75:=rfl;lia
theorem RV{a p:Nat}{b:Bytes}{d:Cur}(h:runIn a ⟨b.drop p,p⟩= .ok (n,d)):d.rest=b.drop d.at_/\p<d.at_/\1<=n/\n<=a/\BJ b d.at_=true/\AH b d.at_=AH b p:=by
 unfold runIn at h;rw[CZ,Ef,CZ]at h;cases f:b[p]? with
 |none=>rw[f]at h;cases h
 |some x=>
  rw[f]at h;dsimp only at h;split at h
  ·rename_i q;have c:(⟨b.drop (p+1),p+1⟩:Cur).rest=b.drop (p+1)/\p<p+1/\1<=x.toNat-48/\x.toNat-48<=a/\BJ b (p+1)=true/\AH b (p+1)=AH b p:=⟨rfl,∅,q.2.1,q.2.2,by rw[DX f];exact q.1,by rw[Cq f,T6 q.1,wC]⟩;cases e:b[p+1]? with
   |none=>rw[e]at h;cases h;exact c
   |some y=>
    rw[e]at h;dsimp only at h;split at h;·rename_i z;cases h;rw[Ef];exact⟨rfl,by show p<p+1+1;lia,∅,z.2.2,by show BJ b (p+1+1)=true;rw[DX e];exact z.1,by show AH b (p+1+1)=_;rw[Cq e,T6 z.1,wC];exact c.2.2.2.2.2⟩
    ·cases h;exact c
  ·cases h
structure dk(b:Bytes)(p left:Nat)(z:List (Nat×Nat)×Cur):Prop where
 rest:z.2.rest=b.drop z.2.at_
 on:p<z.2.at_
 oZ:1<=z.1.length
 oY:z.1.length<=left
 sign:∀q∈z.1,q.1=46\/q.1=104\/q.1=109\/q.1=75
 le:z.2.at_<=b.length
 king:(z.1.map (·.1)).count 75<=1/\((z.1.map (·.1)).count 75=1->AH b p=false/\AH b z.2.at_=true)/\(AH b z.2.at_=false->(z.1.map (·.1)).count 75=0/\AH b p=false)
theorem X3{b:Bytes}{p a:Nat}{z:List (Nat×Nat)×Cur}(i:1<=a)(h:CP a (BJ b p) (AH b p) ⟨b.drop p,p⟩= .ok z):dk b p a z:=by
 unfold CP at h;rw[CZ,Ef]at h;cases c:b[p]? with
 |none=>rw[c]at h;cases h
 |some x=>
  rw[c]at h;dsimp only at h;have g:p+1<=b.length:=(z8.mp c).1;split at h;·rename_i e;cases h;exact⟨rfl,yU p,ze _,i,by simp,g,by simp,by simp,fun k=>by refine⟨rfl,?_⟩;rw[Cq c,ux]at k;exact k.1⟩
  ·split at h;·rename_i e;cases h;exact⟨rfl,yU p,ze _,i,by simp,g,by simp,by simp,fun k=>by refine⟨rfl,?_⟩;rw[Cq c,ux]at k;exact k.1⟩
   ·split at h
    ·rename_i e;cases h;have l:AH b (p+1)=true:=by rw[Cq c,e.1];simp
     refine⟨rfl,yU p,ze _,i,by simp,g,by simp,fun Y=>⟨e.2,l⟩,fun k=>?_⟩;replace k:AH b (p+1)=false:=k;rw[l]at k;cases k
    ·split at h;·cases h
     ·cases f:runIn a ⟨b.drop p,p⟩with
      |error e=>rw[f]at h;cases h
      |ok q=>
       obtain⟨n,d⟩:=q;rw[f]at h;cases h;obtain⟨u,t,s,r,o,m⟩:=RV f;have j:((List.replicate n (46,p)).map (·.1)).count 75=0:=by rw[vf,s_];rfl
       refine⟨u,t,by rw[yF];exact s,by rw[yF];exact r,fun q v=>?_,?_,?_,fun k=>?_,fun k=>?_⟩;·rw[List.eq_of_mem_replicate v];exact .inl rfl
       ·exact iG o
       ·show((List.replicate n (46,p)).map (·.1)).count 75<=1;rw[j];lia
       ·replace k:((List.replicate n (46,p)).map (·.1)).count 75=1:=k;rw[j]at k;cases k
       ·refine⟨j,?_⟩;replace k:AH b d.at_=false:=k;rw[m]at k;exact k
theorem XC{w h f a c o p:Nat}{b:Bytes}{l:List (Piece×Nat×Nat)}(B:1<=a)(t:h-1-o/w=c)(s:o%w=w-a):readRows w (f+1) a c (BJ b p) (AH b p) l ⟨b.drop p,p⟩=(CP a (BJ b p) (AH b p) ⟨b.drop p,p⟩).bind fun z=>readRows w f (a-z.1.length) c (BJ b z.2.at_) (AH b z.2.at_) (l++Jt w h o z.1) z.2:=by
 rw[readRows,zb ∅];unfold CP;rw[CZ,Ef];cases i:b[p]? with
 |none=>rfl
 |some x=>
  cbv;have g:cellOf (w-a) c=13*(h-1-o/w)+o%w:=by rw[t,s];rfl
  by_cases c1:x=104
  ·rw[zc c1,zc c1,g];subst c1;show _=readRows w f (a-1) c (BJ b (p+1)) (AH b (p+1)) _ ⟨b.drop (p+1),p+1⟩;rw[DX i,Cq i];have:(AH b p||((104:UInt8)==75))=AH b p:=by cases AH b p<;>rfl
   rw[this];rfl
  ·rw[zb c1,zb c1];by_cases c2:x=109
   ·rw[zc c2,zc c2,g];subst c2;show _=readRows w f (a-1) c (BJ b (p+1)) (AH b (p+1)) _ ⟨b.drop (p+1),p+1⟩;rw[DX i,Cq i];have:(AH b p||((109:UInt8)==75))=AH b p:=by cases AH b p<;>rfl
    rw[this];rfl
   ·rw[zb c2,zb c2];by_cases j:x=75/\AH b p=false
    ·rw[zc j,zc j,g];obtain⟨rfl,j⟩:=j;show _=readRows w f (a-1) c (BJ b (p+1)) (AH b (p+1)) _ ⟨b.drop (p+1),p+1⟩;rw[DX i,Cq i];have:(AH b p||((75:UInt8)==75))=true:=by cases AH b p<;>rfl
     rw[this];rfl
    ·rw[zb j,zb j];by_cases c4:BJ b p=true;·rw[zc c4,zc c4];rfl
     ·rw[zb c4,zb c4];cases r:runIn a ⟨b.drop p,p⟩with|error e=>rfl|ok q=>obtain⟨n,d⟩:=q;obtain⟨A,y,v,u,m,k⟩:=RV r;dsimp only[Except.bind];rw[m,k,Sk,zR,yF]
theorem XD{w f a p:Nat}{b:Bytes}{l:List (Piece×Nat×Nat)}(e:1<=a):readRows w (f+1) 0 a (BJ b p) (AH b p) l ⟨b.drop p,p⟩=(lit [47] ⟨b.drop p,p⟩).bind fun c=>readRows w f w (a-1) (BJ b c.at_) (AH b c.at_) l c:=by
 rw[readRows,zc rfl,zb ∅];show(lit [47] ⟨b.drop p,p⟩).bind _=_;rw[lit,lit,CZ,Ef];split
 ·rename_i d;show readRows w f w (a-1) false (AH b p) l ⟨b.drop (p+1),p+1⟩=readRows w f w (a-1) (BJ b (p+1)) (AH b (p+1)) l ⟨b.drop (p+1),p+1⟩;rw[DX d,Cq d];have:(AH b p||((47:UInt8)==75))=AH b p:=by cases AH b p<;>rfl
  rw[this];rfl
 ·rfl
def J8(c:Cur):Except Nat (Nat×Cur):=if c.next=some 104 then .ok (0,c.on)else if c.next=some 107 then .ok (1,c.on)else .error c.at_
theorem ah{w f p:Nat}{b:Bytes}{l:List (Piece×Nat×Nat)}:readRows w (f+1) 0 0 (BJ b p) (AH b p) l ⟨b.drop p,p⟩=(lit [32] ⟨b.drop p,p⟩).bind fun c=>(J8 c).bind fun s=> .ok (l,s.1,s.2):=by
 rw[readRows,zc rfl,zc rfl];show(lit [32] ⟨b.drop p,p⟩).bind _=_;cases lit [32] ⟨b.drop p,p⟩with
 |error e=>rfl
 |ok c=>
  show(if c.next=some 104 then _ else if c.next=some 107 then _ else _)=(J8 c).bind _;unfold J8;split;·rfl
  ·split;·rfl
   ·rfl
def tr(k:Nat)(v:Value):Value:=match v with|some x=>if x.2<=k then some x else none|none=>none
theorem lz{w k:Nat}(h:n<=k):tr k (some (w,n))=some (w,n):=by simp[tr,h]
theorem Zl{w k:Nat}(h:¬n<=k):tr k (some (w,n))=none:=by simp[tr,h]
theorem Lr{v:Value}{a k:Nat}:sureFor (tr k v) a=(sureFor v a&&decide (many v<=k)):=by
 cases v with
 |none=>rfl
 |some x=>
  unfold tr;by_cases h:x.2<=k;·simp[h,sureFor,many]
  ·simp[h,sureFor,many]
theorem LP{v:Value}{k:Nat}(h:many v<=k):tr k v=v:=by cases v with|none=>rfl|some x=>have:x.2<=k:=h;simp[tr,this]
theorem BP{v:Value}{c:Nat}(h:sureFor v c=true):v=some (c,many v):=by
 cases v with
 |none=>cases h
 |some x=>
  obtain⟨a,b⟩:=x;have:a=c:=by simpa[sureFor]using h
  subst this;rfl
def least(l:List Nat)(d:Nat):Nat:=l.foldl (fun a b=>min a b) d
theorem MV:∀(l:List Nat)(d:Nat),least l d<=d|[],d=>ze _|x::l,d=>by have:=MV l (min d x);unfold least at this|-;rw[ym];lia
theorem least_le:∀(l:List Nat)(d x:Nat),x∈l->least l d<=x
|y::l,d,x,h=>by
 unfold least;rw[ym];rcases zw.mp h with rfl|h;·have:=MV l (min d x);unfold least at this;lia
 ·exact least_le l _ x h
theorem JR:∀(l:List Nat)(d:Nat),least l d=d\/least l d∈l
|[],d=> .inl rfl
|y::l,d=>by
 unfold least;rw[ym];rcases JR l (min d y)with h|h
 ·unfold least at h;rw[h];by_cases q:d<=y;·left;lia
  ·right;have:min d y=y:=∅;rw[this];exact zh
 ·right;exact zg _ h
theorem Eg{l:List Nat}(h:l≠[]):least l (l.headD 0)∈l:=by
 cases l with
 |nil=>exact absurd rfl h
 |cons x l=>
  rcases JR (x::l) x with q|q;·show least (x::l) x∈x::l;rw[q];exact zh
  ·exact q
theorem Qx{l:List Nat}{m:Nat}(e:d∈l)(g:m∈l)(f:∀x∈l,m<=x):least l d=m:=by
 have a:=least_le l d m g;have b:least l d∈l:=by
  rcases JR l d with q|q;·rw[q];exact e
  ·exact q
 have c:=f _ b;lia
def greatest(l:List Nat):Nat:=l.foldl (fun a b=>max a b) 0
theorem WY:∀(l:List Nat)(d:Nat),d<=l.foldl (fun a b=>max a b) d|[],d=>ze _|x::l,d=>by rw[ym];have:=WY l (max d x);lia
theorem Cn:∀(l:List Nat)(d x:Nat),x∈l->x<=l.foldl (fun a b=>max a b) d
|y::l,d,x,h=>by
 rw[ym];rcases zw.mp h with rfl|h;·have:=WY l (max d x);lia
 ·exact Cn l _ x h
theorem QE:∀(l:List Nat)(d k:Nat),d<=k->(∀x∈l,x<=k)->l.foldl (fun a b=>max a b) d<=k|[],d,k,h,_=>h|y::l,d,k,h,c=>by rw[ym];exact QE l _ k (by have:=c y zh;lia) fun x q=>c x (zg _ q)
abbrev CY(a:Nat)(b:List Value):List Value:=b.filter fun v=>sureFor v a
abbrev GV(a:Nat)(b:List Value):Bool:=b.all fun v=>sureFor v (1-a)
theorem Er{a:Nat}{b:List Value}(h:CY a b≠[]):valueBy a b=some (a,least ((CY a b).map many) (many ((CY a b).headD none))+1):=by unfold valueBy;simp only;rw[zc h];rfl
theorem Cz{a:Nat}{b:List Value}(h:CY a b=[])(d:b≠[])(c:GV a b=true):valueBy a b=some (1-a,greatest (b.map many)+1):=by unfold valueBy;simp only;rw[zb (fun q=>q h),zc ⟨d,c⟩];rfl
theorem BR{a:Nat}{b:List Value}(h:CY a b=[])(c:¬(b≠[]/\GV a b=true)):valueBy a b=none:=by unfold valueBy;simp only;rw[zb (fun q=>q h),zb c]
theorem Hh{a m:Nat}{b:List Value}(k:some (a,m)∈b)(j:∀n,some (a,n)∈b->m<=n):valueBy a b=some (a,m+1):=by
 have c:some (a,m)∈CY a b:=zS.mpr ⟨k,by simp[sureFor]⟩;have d:CY a b≠[]:=by intro q;rw[q]at c;cases c
 rw[Er d];have:least ((CY a b).map many) (many ((CY a b).headD none))=m:=by
  refine Qx ?_ ?_ ?_;·cases e:CY a b with|nil=>exact absurd e d|cons x l=>simp
  ·exact zk.mpr ⟨_,c,rfl⟩
  ·intro x h;obtain⟨v,i,rfl⟩:=zk.mp h;obtain⟨g,f⟩:=zS.mp i;have:=BP f;exact j _ (by rw[<-this];exact g)
 rw[this]
theorem Uq(a k:Nat)(b:List Value):valueBy a (b.map (tr k))=tr (k+1) (valueBy a b):=by
 by_cases ho:CY a b=[]
 ·have o:CY a (b.map (tr k))=[]:=by rw[xm]at ho|-;intro v c;obtain⟨u,j,rfl⟩:=zk.mp c;have:=ho u j;rw[Lr];simp at this;simp[this]
  by_cases ha:b≠[]/\GV a b=true
  ·rw[Cz ho ha.1 ha.2];have w:=yq.mp ha.2;by_cases hg:greatest (b.map many)<=k
   ·have d:∀v∈b,many v<=k:=fun v c=>z_ (Cn _ 0 _ (zk.mpr ⟨v,c,rfl⟩)) hg;have e:b.map (tr k)=b:=by rw[List.map_eq_iff];intro i;cases q:b[i]? with|none=>rfl|some v=>simp[LP (d v (zf q))]
    rw[e,Cz ho ha.1 ha.2,LP];show greatest (b.map many)+1<=k+1;lia
   ·rw[BR o ?_];·rw[Zl ∅]
    ·rintro⟨Y,q⟩;apply hg;refine QE _ 0 k (zx _) fun x C=>?_;obtain⟨v,c,rfl⟩:=zk.mp C;have:=yq.mp q _ (zk.mpr ⟨v,c,rfl⟩);rw[Lr]at this;simp at this;exact this.2
  ·rw[BR ho ha,BR o ?_];·rfl
   ·rintro⟨A,y⟩;refine ha ⟨fun e=>A (by rw[e];rfl),?_⟩;refine yq.mpr fun v c=>?_;have:=yq.mp y _ (zk.mpr ⟨v,c,rfl⟩);rw[Lr]at this;simp at this;exact this.1
 ·have t:=Eg (l:=(CY a b).map many) ‹ho›;have D:((CY a b).map many).headD 0=many ((CY a b).headD none):=by cases e:CY a b with|nil=>exact absurd e ho|cons x l=>rfl
  rw[D]at t;obtain⟨m,g⟩:∃m,m=least ((CY a b).map many) (many ((CY a b).headD none)):=⟨_,rfl⟩;rw[<-g]at t;obtain⟨v,c,p⟩:=zk.mp t;obtain⟨h,r⟩:=zS.mp c;have f:=BP r;rw[p]at f;have d:∀n,some (a,n)∈b->m<=n:=fun n s=>by rw[g];exact least_le _ _ _ (zk.mpr ⟨_,zS.mpr ⟨s,by simp[sureFor]⟩,rfl⟩)
  rw[Er ho,<-g];by_cases hk:m<=k
  ·rw[Hh (m:=m)];·rw[lz ∅]
   ·refine zk.mpr ⟨v,h,?_⟩;rw[f];exact LP hk
   ·intro n s;obtain⟨u,j,e⟩:=zk.mp s;refine d n ?_;cases u with
    |none=>cases e
    |some x=>
     unfold tr at e;dsimp only at e;split at e;·rw[<-e];exact j
     ·cases e
  ·rw[BR];·rw[Zl ∅]
   ·rw[xm];intro u j;obtain⟨z,B,rfl⟩:=zk.mp j;rw[Lr];intro q;simp at q;have:=d (many z) (by rw[<-BP q.1];exact B);lia
   ·rintro⟨Y,q⟩;have:=yq.mp q _ (zk.mpr ⟨v,h,rfl⟩);rw[f,Zl hk]at this;cases this
structure Xn(AO:List Nat)(es:List (List Nat))(ends f:List Value):Prop where
 len:ends.length=f.length
 eq:∀i,i<f.length->f.getD i none=match ends.getD i none with|some x=>some x|none=>valueBy (AO.getD i 0) ((es.getD i []).map fun j=>f.getD j none)
 zero:∀i x,ends.getD i none=some x->x.2=0
theorem Gx(k:Nat)(f:List Value)(j:Nat):(f.map (tr k)).getD j none=tr k (f.getD j none):=by rw[z5,z5,z7];cases f[j]?<;>rfl
theorem ak(F:Xn AO es ends f)(k:Nat):round AO es (f.map (tr k))=f.map (tr (k+1)):=by
 unfold round;apply vB;intro i;rw[z3,z7,z7];by_cases hi:i<f.length
 ·rw[xh hi,z4 hi];simp only[yE];congr 1;rw[Gx];have l:f.getD i none=f[i]:=by rw[z5,z4 hi];rfl
  have a:=F.eq i hi;rw[l]at a|-;cases e:ends.getD i none with
  |some x=>
   rw[e]at a;dsimp only at a;have g:=F.zero i x e;have d:∀k,tr k f[i]=some x:=fun k=>by rw[a];simp[tr,g]
   rw[d,d]
  |none=>
   rw[e]at a;dsimp only at a;have b:valueBy (AO.getD i 0) ((es.getD i []).map fun j=>(f.map (tr k)).getD j none)=tr (k+1) f[i]:=by rw[a,<-Uq,zG];congr 1;apply y6;intro j Y;exact Gx k f j
   cases q:tr k f[i]with
   |some x=>
    cbv;rw[<-q];cases c:f[i]with
    |none=>rw[c]at q;cases q
    |some y=>
     rw[c]at q;unfold tr at q|-;dsimp only at q|-;split at q;·rename_i h;rw[zc h,zc ∅]
     ·cases q
   |none=>exact b
 ·have n:(List.range f.length)[i]?=none:=by rw[y9,yj];lia
  have m:f[i]?=none:=by rw[y9];lia
  rw[n,m];rfl
theorem Xn.below(F:Xn AO es ends f):∀(n i w:Nat),f.getD i none=some (w,n+1)->∃j A,f.getD j none=some (A,n):=by
 intro n i w h;have H:i<f.length:=by
  by_cases q:i<f.length;·exact q
  ·rw[z5,y9.mpr ∅]at h;cases h
 have e:=F.eq i H;rw[h]at e;cases q:ends.getD i none with
 |some x=>rw[q]at e;dsimp only at e;have:=F.zero i x q;cases e;cases this
 |none=>
  rw[q]at e;dsimp only at e;obtain⟨k,m⟩:∃k,k=(es.getD i []).map fun j=>f.getD j none:=⟨_,rfl⟩;rw[<-m]at e;have fin:some (w,n)∈k\/∃A,some (A,n)∈k->True:= .inr ⟨0,fun Y=>we⟩;by_cases ho:CY (AO.getD i 0) k=[]
  ·by_cases ha:k≠[]/\GV (AO.getD i 0) k=true
   ·rw[Cz ho ha.1 ha.2]at e;have C:n+1=greatest (k.map many)+1:=zT Prod.snd (zt e);have s:∀(l:List Nat)(d:Nat),l.foldl (fun a b=>max a b) d=d\/l.foldl (fun a b=>max a b) d∈l:=by
     intro l;induction l with
     |nil=>exact fun d=> .inl rfl
     |cons y l E=>
      intro d;rw[ym];rcases E (max d y)with z|z
      ·rw[z];by_cases c:y<=d;·left;lia
       ·right;have:max d y=y:=∅;rw[this];exact zh
      ·exact .inr (zg _ z)
    have o:=yq.mp ha.2;rcases s (k.map many) 0 with z|z
    ·cases r:k with
     |nil=>exact absurd r ha.1
     |cons v l=>
      have g:v∈k:=by rw[r];exact zh
      have u:=BP (o v g);have K:many v<=0:=by have:=Cn (k.map many) 0 _ (zk.mpr ⟨v,g,rfl⟩);lia
      have J:n=0:=by unfold greatest at C;lia
      rw[m]at g;obtain⟨j,Y,t⟩:=zk.mp g;exact⟨j,_,by rw[t,u,J];congr 2;lia⟩
    ·obtain⟨v,g,r⟩:=zk.mp z;have u:=BP (o v g);rw[m]at g;obtain⟨j,Y,t⟩:=zk.mp g;refine⟨j,_,by rw[t,u];congr 2;unfold greatest at C;lia⟩
   ·rw[BR ho ha]at e;cases e
  ·rw[Er ho]at e;have C:n+1=_+1:=zT Prod.snd (zt e);have D:=Eg (l:=(CY (AO.getD i 0) k).map many) ‹ho›;have I:((CY (AO.getD i 0) k).map many).headD 0=many ((CY (AO.getD i 0) k).headD none):=by cases e:CY (AO.getD i 0) k with|nil=>exact absurd e ho|cons x l=>rfl
   rw[I]at D;obtain⟨v,r,G⟩:=zk.mp D;obtain⟨p,B⟩:=zS.mp r;have u:=BP B;rw[m]at p;obtain⟨j,Y,t⟩:=zk.mp p;exact⟨j,_,by rw[t,u];congr 2;lia⟩
theorem Xn.down(F:Xn AO es ends f):∀(d n i w:Nat),f.getD i none=some (w,n+d)->∃j a,f.getD j none=some (a,n) |0,n,i,w,h=>⟨i,w,h⟩ |d+1,n,i,w,h=>by obtain⟨j,a,b⟩:=F.below (n+d) i w h;exact F.down d n j a b
theorem PJ:∀(n:Nat)(l:List Nat),(∀k,k<=n->k∈l)->n+1<=l.length
|0,l,h=>by have:=h 0 (ze _);exact sG this
|n+1,l,h=>by
 have a:=h (n+1) (ze _);have b:=PJ n (l.erase (n+1)) fun k c=>by rw[List.mem_erase_of_ne ∅];exact h k ∅
 rw[List.length_erase_of_mem a]at b;have:0<l.length:=sG a;lia
theorem Xn.lt(F:Xn AO es ends f){i w:Nat}(h:f.getD i none=some (w,n)):n<f.length:=by
 have:=PJ n (f.map many) fun k c=>by obtain⟨j,b,a⟩:=F.down (n-k) k i w (by rw[h];congr 2;lia);refine zk.mpr ⟨some (b,k),?_,rfl⟩;rw[z5]at a;cases q:f[j]? with|none=>rw[q]at a;cases a|some v=>rw[q]at a;have:v=some (b,k):=a;rw[<-this];exact zf q
 rw[z3]at this;lia
theorem Pe{k:Nat}(h:∀(i w n:Nat),f.getD i none=some (w,n)->n<=k):f.map (tr k)=f:=by apply vB;intro i;rw[z7];cases q:f[i]? with|none=>rfl|some v=>simp only[yE];congr 1;cases v with|none=>rfl|some x=>have:=h i x.1 x.2 (by rw[z5,q];rfl);simp[tr,this]
theorem OM(F:Xn AO es ends f):∀(n k:Nat),f.length<=k+n->rounds AO es n (f.map (tr k))=f
|0,k,h=>by unfold rounds;exact Pe fun i w n a=>by have:=F.lt a;lia
|n+1,k,h=>by
 unfold rounds;simp only;rw[ak F k];split
 ·rename_i e;refine Pe fun i w m b=>?_;by_cases hk:m<=k;·exact hk
  ·exfalso;obtain⟨j,d,c⟩:=F.down (m-(k+1)) (k+1) i w (by rw[b];congr 2;lia);have:=zT (fun l=>l.getD j none) e;simp only[Gx,c]at this;simp[tr]at this
 ·exact OM F n (k+1) ∅
theorem UH(F:Xn AO es ends f):rounds AO es ends.length ends=f:=by
 have e:ends=f.map (tr 0):=by
  apply vB;intro i;rw[z7];by_cases hi:i<f.length
  ·have a:=F.eq i hi;have j:f.getD i none=f[i]:=by rw[z5,z4 hi];rfl
   have b:i<ends.length:=by rw[F.len];exact hi
   have c:ends.getD i none=ends[i]:=by rw[z5,z4 b];rfl
   rw[z4 hi,z4 b];simp only[yE];congr 1;rw[j]at a;cases q:ends[i]with
   |some x=>rw[c,q]at a;dsimp only at a;rw[a];have:=F.zero i x (by rw[c,q]);simp[tr,this]
   |none=>
    rw[c,q]at a;dsimp only at a;cases d:f[i]with
    |none=>rfl
    |some y=>
     obtain⟨w,n⟩:=y;cases n with
     |succ n=>simp[tr]
     |zero=>
      exfalso;rw[d]at a;unfold valueBy at a;simp only at a;split at a;·cases a
      ·split at a;·cases a
       ·cases a
  ·have h:ends[i]?=none:=by rw[y9,F.len];lia
   have g:f[i]?=none:=by rw[y9];lia
   rw[h,g];rfl
 rw[F.len];conv=>lhs;rw[e]
 exact OM F f.length 0 ∅
structure B where
 vals:List Value
 EB:List Int
 queue:List Nat
def G9(AO:List Nat)(w m:Nat)(b:B)(i:Nat):B:=if b.vals.getD i none=none/\(AO.getD i 0=w\/b.EB.getD i 0-1=0)then⟨b.vals.set i (some (w,m+1)),b.EB.set i (b.EB.getD i 0-1),b.queue++[i]⟩else⟨b.vals,b.EB.set i (b.EB.getD i 0-1),b.queue⟩
theorem Jd{a:Type}(l:List a)(i j:Nat)(x d:a):(l.set i x).getD j d=if i=j/\i<l.length then x else l.getD j d:=by
 rw[z5,z5,uV];by_cases h:i=j
 ·subst h;by_cases q:i<l.length;·simp[q]
  ·simp[q]
 ·simp[h]
structure Gr(n:Nat)(AO:List Nat)(es pr:List (List Nat))(ends:List Value):Prop where
 xk:es.length=n
 w8:pr.length=n
 qs:ends.length=n
 kZ:∀i j,j∈es.getD i []->j<n
 pin:∀i j,i∈pr.getD j []->i<n
 cnt:∀i j,i<n->j<n->(pr.getD j []).count i=(es.getD i []).count j
 nD:∀i,AO.getD i 0<=1
 zero:∀i x,ends.getD i none=some x->x.2=0/\x.1<=1
 qz:∀i,i<n->(es.getD i []=[]↔ends.getD i none≠none)
def ET(es:List (List Nat))(P:List Nat)(i:Nat):Nat:=(es.getD i []).countP fun j=>decide (j∉P)
structure Ln(n:Nat)(AO:List Nat)(es:List (List Nat))(ends:List Value)(b:B)(d:Nat):Prop where
 vl:b.vals.length=n
 ul:b.EB.length=n
 nd:b.queue.Nodup
 lt:∀i,i∈b.queue->i<n
 dl:d<=b.queue.length
 NO:∀i,i<n->(b.vals.getD i none≠none↔i∈b.queue)
 EB:∀i,i<n->b.EB.getD i 0=(ET es (b.queue.take d) i:Nat)
 up:∀(i j x y:Nat),i<=j->b.queue[i]?=some x->b.queue[j]?=some y->many (b.vals.getD x none)<=many (b.vals.getD y none)
 near:∀(x y:Nat),b.queue[d]?=some x->y∈b.queue->many (b.vals.getD y none)<=many (b.vals.getD x none)+1
 who:∀i x,b.vals.getD i none=some x->x.1<=1
 ij:∀i,i<n->ends.getD i none≠none->b.vals.getD i none=ends.getD i none
 own:∀i m,i∈b.queue->ends.getD i none=none->b.vals.getD i none=some (AO.getD i 0,m)->∃k,m=k+1/\(∃j,j∈es.getD i []/\b.vals.getD j none=some (AO.getD i 0,k))/\∀j k',j∈es.getD i []->b.vals.getD j none=some (AO.getD i 0,k')->k<=k'
 p_:∀i w m,i∈b.queue->ends.getD i none=none->b.vals.getD i none=some (w,m)->w≠AO.getD i 0->∃k,m=k+1/\(∃j,j∈es.getD i []/\b.vals.getD j none=some (w,k))/\∀j,j∈es.getD i []->∃k',k'<=k/\b.vals.getD j none=some (w,k')
 out:∀i,i<n->i∉b.queue->(∀j,j∈es.getD i []->j∈b.queue.take d->∀m,b.vals.getD j none≠some (AO.getD i 0,m))/\0<ET es (b.queue.take d) i
theorem UR{w s:Nat}(b:w<=1)(a:s<=1)(h:w≠s):w=1-s:=∅
theorem Ln.fix{H:List (List Nat)}{b:B}(G:Gr n AO es H ends)(I:Ln n AO es ends b b.queue.length):Xn AO es ends b.vals:=by
 have F:b.queue.take b.queue.length=b.queue:=y1;refine⟨by rw[G.qs,I.vl],fun i o=>?_,fun i x h=>(G.zero i x h).1⟩;rw[I.vl]at o;cases e:ends.getD i none with
 |some x=>rw[I.ij i o (by rw[e];exact fun q=>nomatch q),e]
 |none=>
  cbv;by_cases hq:i∈b.queue
  ·cases v:b.vals.getD i none with
   |none=>exact absurd v ((I.NO i o).mpr hq)
   |some y=>
    obtain⟨w,m⟩:=y;by_cases hw:w=AO.getD i 0;·subst hw;obtain⟨k,rfl,⟨j,c,l⟩,s⟩:=I.own i m hq e v;symm;refine Hh (zk.mpr ⟨j,c,l⟩) fun J L=>?_;obtain⟨f,a,r⟩:=zk.mp L;exact s f J a r
    ·obtain⟨k,rfl,⟨j,c,l⟩,d⟩:=I.p_ i w m hq e v hw;have E:w=1-AO.getD i 0:=UR (I.who i _ v) (G.nD i) hw;have Q:CY (AO.getD i 0) ((es.getD i []).map fun j=>b.vals.getD j none)=[]:=by rw[xm];intro u g;obtain⟨f,a,rfl⟩:=zk.mp g;obtain⟨D,Y,q⟩:=d f a;rw[q];show¬(w==AO.getD i 0)=true;rw[zP];exact hw
     have P:((es.getD i []).map fun j=>b.vals.getD j none)≠[]:=by intro q;rw[ya]at q;rw[q]at c;cases c
     have O:GV (AO.getD i 0) ((es.getD i []).map fun j=>b.vals.getD j none)=true:=by refine yq.mpr fun u g=>?_;obtain⟨f,a,rfl⟩:=zk.mp g;obtain⟨D,Y,q⟩:=d f a;rw[q];simp[sureFor,E]
     rw[Cz Q P O,<-E];congr 2;have S:greatest (((es.getD i []).map fun j=>b.vals.getD j none).map many)<=k:=by refine QE _ 0 k (zx _) fun x K=>?_;obtain⟨u,g,rfl⟩:=zk.mp K;obtain⟨f,a,rfl⟩:=zk.mp g;obtain⟨D,t,q⟩:=d f a;rw[q];exact t
     have R:k<=greatest (((es.getD i []).map fun j=>b.vals.getD j none).map many):=Cn _ 0 k (zk.mpr ⟨_,zk.mpr ⟨j,c,rfl⟩,by rw[l];rfl⟩);lia
  ·have l:b.vals.getD i none=none:=by cases v:b.vals.getD i none with|none=>rfl|some y=>exact absurd ((I.NO i o).mp (by rw[v];exact fun q=>nomatch q)) hq
   rw[l];symm;obtain⟨C,p⟩:=I.out i o hq;rw[F]at C p;refine BR ?_ ?_;·rw[xm];intro u g;obtain⟨j,c,rfl⟩:=zk.mp g;intro q;have:=BP q;have z:j∈b.queue:=(I.NO j (G.kZ i j c)).mp (by rw[this];exact fun q=>nomatch q);exact C j c z _ this
   ·rintro⟨Y,q⟩;unfold ET at p;obtain⟨j,c,a⟩:=List.countP_pos_iff.mp p;have A:j∉b.queue:=‹a›;have N:=yq.mp q _ (zk.mpr ⟨j,c,rfl⟩);have M:=BP N;exact A ((I.NO j (G.kZ i j c)).mp (by rw[M];exact fun q=>nomatch q))
structure dv(n:Nat)(AO:List Nat)(w m:Nat)(b0:B)(D:List Nat)(b:B)(new:List Nat):Prop where
 vl:b.vals.length=n
 ul:b.EB.length=n
 q:b.queue=b0.queue++new
 nd:new.Nodup
 lt:∀i,i∈new->i<n
 EB:∀i,i<n->b.EB.getD i 0=b0.EB.getD i 0-(D.count i:Nat)
 KS:∀i,i∈new->b.vals.getD i none=some (w,m+1)
 Rn:∀i,i∉new->b.vals.getD i none=b0.vals.getD i none
 iH:∀i,i∈new->b0.vals.getD i none=none/\i∈D/\(AO.getD i 0=w\/b0.EB.getD i 0-(D.count i:Nat)<=0)
 pa:∀i,i<n->i∉new->b0.vals.getD i none=none->i∈D->AO.getD i 0≠w/\b0.EB.getD i 0-(D.count i:Nat)≠0
theorem dv.step{w m:Nat}{I:B}{D:List Nat}{b:B}{f:List Nat}(M:dv n AO w m I D b f){i:Nat}(y:i<n)(J:I.EB.getD i 0-((D++[i]).count i:Nat)>=0):∃s,dv n AO w m I (D++[i]) (G9 AO w m b i) s:=by
 have r:∀k,(D++[i]).count k=D.count k+if i=k then 1 else 0:=fun k=>by rw[wN,sZ];simp only[zP]
 have A:(D++[i]).count i=D.count i+1:=by rw[r,zc rfl]
 have C:=M.EB i y;unfold G9;split
 ·rename_i h;obtain⟨t,u⟩:=h;have x:i∉f:=fun q=>by rw[M.KS i q]at t;cases t
  refine⟨f++[i],⟨by simp[M.vl],by simp[M.ul],by rw[M.q,zX],?_,?_,?_,?_,?_,?_,?_⟩⟩;·rw[yZ];refine⟨M.nd,by simp,fun a K c G=>?_⟩;have:c=i:=‹G›;subst this;exact fun q=>x (q▸K)
  ·intro k d;rcases zD.mp d with z|z;·exact M.lt k z
   ·have:k=i:=‹z›;rw[this];exact y
  ·intro k d;show(b.EB.set i _).getD k 0=_;rw[Jd,r];by_cases e:i=k;·subst e;rw[zc ⟨rfl,by rw[M.ul];exact y⟩,zc rfl,C];lia
   ·rw[zb (fun q=>e q.1),zb e,M.EB k d];rfl
  ·intro k d;show(b.vals.set i _).getD k none=_;rw[Jd];by_cases e:i=k;·rw[zc ⟨e,by rw[M.vl];exact y⟩]
   ·rw[zb (fun q=>e q.1)];rcases zD.mp d with z|z;·exact M.KS k z
    ·exact absurd (‹z›:k=i).symm e
  ·intro k d;show(b.vals.set i _).getD k none=_;rw[Jd];have e:¬i=k:=fun e=>d (by rw[<-e];simp);rw[zb (fun q=>e q.1)];exact M.Rn k fun z=>d (yB _ z)
  ·intro k d;rcases zD.mp d with z|z
   ·obtain⟨F,E,l⟩:=M.iH k z;exists F,yB _ E;rcases l with l|l;·exact .inl l
    ·right;rw[r];split<;>lia
   ·have e:k=i:=‹z›;subst e;refine⟨by rw[<-M.Rn k x];exact t,by simp,?_⟩;rcases u with u|u;·exact .inl u
    ·right;rw[A];rw[C]at u;lia
  ·intro k d g o p;have e:¬i=k:=fun e=>g (by rw[<-e];simp);have v:k∉f:=fun z=>g (yB _ z);have j:k∈D:=by
    rcases zD.mp p with z|z;·exact z
    ·exact absurd (‹z›:k=i).symm e
   have:=M.pa k d v o j;rw[r,zb e];exact this
 ·rename_i h;refine⟨f,⟨M.vl,by simp[M.ul],M.q,M.nd,M.lt,?_,M.KS,M.Rn,?_,?_⟩⟩
  ·intro k d;show(b.EB.set i _).getD k 0=_;rw[Jd,r];by_cases e:i=k;·subst e;rw[zc ⟨rfl,by rw[M.ul];exact y⟩,zc rfl,C];lia
   ·rw[zb (fun q=>e q.1),zb e,M.EB k d];rfl
  ·intro k d;obtain⟨F,E,l⟩:=M.iH k d;exists F,yB _ E;rcases l with l|l;·exact .inl l
   ·right;rw[r];split<;>lia
  ·intro k d g o p;by_cases e:i=k
   ·subst e;have t:b.vals.getD i none=none:=by rw[M.Rn i g];exact o
    have H:¬(AO.getD i 0=w\/b.EB.getD i 0-1=0):=fun q=>h ⟨t,q⟩;rw[C]at H;rw[A];refine⟨fun q=>H (.inl q),fun q=>H (.inr ∅)⟩
   ·have j:k∈D:=by
     rcases zD.mp p with z|z;·exact z
     ·exact absurd (‹z›:k=i).symm e
    have:=M.pa k d g o j;rw[r,zb e];exact this
theorem dv.start{w m:Nat}{a:B}(b:a.vals.length=n)(c:a.EB.length=n):dv n AO w m a [] a []:=⟨b,c,by simp,wa,fun Y h=>(nomatch h),fun i Y=>by simp,fun Y h=>(nomatch h),fun Y Y=>rfl,fun Y h=>(nomatch h),fun Y Y Y Y h=>(nomatch h)⟩
theorem dv.pos{e:List (List Nat)}{b:B}{x:Nat}(G:Gr n AO es e ends)(I:Ln n AO es ends b d)(g:b.queue[d]?=some x){D R:List Nat}{i:Nat}(k:e.getD x []=D++i::R):i<n/\b.EB.getD i 0-((D++[i]).count i:Nat)>=0:=by
 have h:i<n:=G.pin i x (by rw[k];simp);have f:x<n:=I.lt x (zf g);refine⟨h,?_⟩;rw[I.EB i h];have w:(D++[i]).count i<=(e.getD x []).count i:=by rw[k,show D++i::R=(D++[i])++R by simp,wN (l₁:=D++[i])];lia
 have v:=G.cnt i x h f;have u:(es.getD i []).count x<=ET es (b.queue.take d) i:=by
  unfold ET List.count;refine List.countP_mono_left fun j Y m=>?_;have:j=x:=‹m›;subst this;have:j∉b.queue.take d:=fun q=>by
   obtain⟨a,c⟩:=yJ q;rw[wD]at c;split at c;·rename_i l;have t:d<b.queue.length:=(z8.mp g).1;obtain⟨s,p⟩:=z8.mp c;obtain⟨r,o⟩:=z8.mp g;have:=(tm I.nd).mp (p.trans o.symm);lia
   ·cases c
  simpa using this
 lia
theorem OW{P:List Nat}{x i:Nat}(c:x∉P):ET es (P++[x]) i+(es.getD i []).count x=ET es P i:=by
 unfold ET;generalize es.getD i []=l;induction l with
 |nil=>rfl
 |cons j l d=>
  rw[r_,r_,ur];by_cases e:j=x
  ·subst e;simp only[xG,xj];have b:(decide (j∉P++[j])=true)=False:=by simp
   have a:(decide (j∉P)=true)=True:=by simp[c]
   simp only[b,a,xj,yW];lia
  ·have b:(j==x)=false:=‹e›;have a:(decide (j∉P++[x])=true)=(decide (j∉P)=true):=by simp[e]
   simp only[b,a,yD,yW];lia
theorem dv.inv{pr:List (List Nat)}{g b:B}{x w m:Nat}{t:List Nat}(G:Gr n AO es pr ends)(I:Ln n AO es ends g d)(T:g.queue[d]?=some x)(hv:g.vals.getD x none=some (w,m))(M:dv n AO w m g (pr.getD x []) b t):Ln n AO es ends b (d+1):=by
 have hd:d<g.queue.length:=(z8.mp T).1;have a4:x∈g.queue:=zf T;have a0:x<n:=I.lt x a4;have a1:x∉g.queue.take d:=fun q=>by
  obtain⟨a,D⟩:=yJ q;rw[wD]at D;split at D;·obtain⟨p1,e1⟩:=z8.mp D;obtain⟨p2,e2⟩:=z8.mp T;have:=(tm I.nd).mp (e1.trans e2.symm);lia
  ·cases D
 have tk:b.queue.take (d+1)=g.queue.take d++[x]:=by rw[M.q,List.take_append_of_le_length ∅,vy,T];rfl
 have p:∀i,i∈t->i∉g.queue:=fun i l q=>absurd (M.iH i l).1 ((I.NO i (M.lt i l)).mpr q);have Q:∀i,i∈g.queue->b.vals.getD i none=g.vals.getD i none:=fun i l=>M.Rn i fun q=>p i q l;have V:∀i,i<n->(i∈pr.getD x []↔x∈es.getD i []):=fun i l=>by rw[<-vk,<-vk,G.cnt i x l a0]
 have a6:w<=1:=I.who x _ hv;have mx:many (g.vals.getD x none)=m:=by rw[hv];rfl
 have C:∀i,i<n->((ET es (g.queue.take d++[x]) i:Nat):Int)=g.EB.getD i 0-((pr.getD x []).count i:Nat):=fun i l=>by rw[I.EB i l,G.cnt i x l a0];have:=OW (es:=es) (i:=i) a1;lia
 have s:∀j,b.vals.getD j none=g.vals.getD j none\/(j∈t/\b.vals.getD j none=some (w,m+1)/\g.vals.getD j none=none):=fun j=>by
  by_cases H:j∈t;·exact .inr ⟨H,M.KS j H,(M.iH j H).1⟩
  ·exact .inl (M.Rn j H)
 have f:∀j y,g.vals.getD j none=some y->b.vals.getD j none=some y:=fun j y h=>by
  rcases s j with q|⟨Y,Y,q⟩;·rw[q,h]
  ·rw[q]at h;cases h
 have v:∀y,y∈g.queue->many (g.vals.getD y none)<=m+1:=fun y E=>by have:=I.near x y T E;rw[mx]at this;exact this
 exists M.vl,M.ul,?_,?_,?_,?_,?_,?_,?_,?_,?_,?_,?_;·rw[M.q,yZ];exact⟨I.nd,M.nd,fun a D c hc e=>p c hc (e▸D)⟩
 ·intro i l;rw[M.q]at l;rcases zD.mp l with z|z;·exact I.lt i z
  ·exact M.lt i z
 ·rw[M.q,zd];lia
 ·intro i l;rw[M.q,zD];by_cases hn:i∈t;·rw[M.KS i hn];exact⟨fun Y=> .inr hn,fun Y q=>nomatch q⟩
  ·rw[M.Rn i hn,I.NO i l];exact⟨.inl,fun q=>q.resolve_right hn⟩
 ·intro i l;rw[tk,M.EB i l,C i l]
 ·intro i j y z a8 E Z;rw[M.q]at E Z;have U:∀(k u:Nat),k<g.queue.length->(g.queue++t)[k]?=some u->g.queue[k]?=some u:=fun k u hk e=>by rw[yr hk]at e;exact e
  have K:∀(k u:Nat),¬k<g.queue.length->(g.queue++t)[k]?=some u->u∈t:=fun k u hk e=>by rw[yC ∅]at e;exact zf e
  by_cases h1:j<g.queue.length;·have R:=U j z h1 Z;have L:=U i y ∅ E;rw[Q y (zf L),Q z (zf R)];exact I.up i j y z a8 L R
  ·have R:=K j z h1 Z;rw[M.KS z R];by_cases A:i<g.queue.length;·have L:=U i y A E;rw[Q y (zf L)];exact v y (zf L)
   ·rw[M.KS y (K i y A E)];exact ze _
 ·intro y z E Z;rw[M.q]at E Z;have b1:m<=many (b.vals.getD y none):=by
   by_cases A:d+1<g.queue.length;·rw[yr A]at E;rw[Q y (zf E),<-mx];exact I.up d (d+1) x y ∅ T E
   ·rw[yC ∅]at E;rw[M.KS y (zf E)];exact wG _
  rcases zD.mp Z with q|q;·rw[Q z q];have:=v z q;lia
  ·rw[M.KS z q];show m+1<=_;lia
 ·intro i y h;rcases s i with q|⟨Y,q,Y⟩;·exact I.who i y (by rw[<-q];exact h)
  ·rw[q]at h;cases h;exact a6
 ·intro i l h;cases e:ends.getD i none with|none=>exact absurd e h|some y=>refine f i y ?_;rw[I.ij i l h,e]
 ·intro i k l he h;rw[M.q]at l;rcases zD.mp l with z|z
  ·rw[Q i z]at h;obtain⟨k',rfl,⟨j,H,W⟩,a7⟩:=I.own i k z he h;refine⟨k',rfl,⟨j,H,f j _ W⟩,fun o S r A=>?_⟩;rcases s o with q|⟨Y,q,Y⟩;·exact a7 o S r (by rw[<-q];exact A)
   ·rw[q]at A;cases A;have:=v i z;rw[h]at this;have:k'+1<=m+1:=this;lia
  ·have hm:=M.KS i z;rw[hm]at h;have e1:w=AO.getD i 0:=zT Prod.fst (zt h);have e2:m+1=k:=zT Prod.snd (zt h);have J:=M.lt i z;have F:x∈es.getD i []:=(V i J).mp (M.iH i z).2.1;refine⟨m,e2.symm,⟨x,F,by rw[<-e1];exact f x _ hv⟩,fun o S r A=>?_⟩;rcases s o with q|⟨Y,q,Y⟩
   ·rw[q]at A;have X:o∈g.queue:=(I.NO o (G.kZ i o r)).mp (by rw[A];exact fun q=>nomatch q);obtain⟨a,D⟩:=yJ X;by_cases had:a<d
    ·exfalso;have:o∈g.queue.take d:=by refine zf (i:=a) ?_;rw[vM had];exact D
     exact(I.out i J (p i z)).1 o r this S A
    ·have:=I.up d a x o ∅ T D;rw[mx,A]at this;exact this
   ·rw[q]at A;cases A;lia
 ·intro i w' k l he h a2;rw[M.q]at l;rcases zD.mp l with z|z;·rw[Q i z]at h;obtain⟨k',rfl,⟨j,H,W⟩,a3⟩:=I.p_ i w' k z he h a2;refine⟨k',rfl,⟨j,H,f j _ W⟩,fun o r=>?_⟩;obtain⟨S,h1,A⟩:=a3 o r;exact⟨S,h1,f o _ A⟩
  ·have hm:=M.KS i z;rw[hm]at h;have e1:w=w':=zT Prod.fst (zt h);have e2:m+1=k:=zT Prod.snd (zt h);subst e1;have J:=M.lt i z;have F:x∈es.getD i []:=(V i J).mp (M.iH i z).2.1;refine⟨m,e2.symm,⟨x,F,f x _ hv⟩,fun o r=>?_⟩;have h0:ET es (g.queue.take d++[x]) i=0:=by
    rcases(M.iH i z).2.2 with q|q;·exact absurd q.symm a2
    ·have:=C i J;lia
   have P:o∈g.queue.take d++[x]:=by unfold ET at h0;rw[List.countP_eq_zero]at h0;have:=h0 o r;rw[zq]at this;exact rR.mp this
   rcases zD.mp P with q|q
   ·have X:o∈g.queue:=wc q;cases N:g.vals.getD o none with
    |none=>exact absurd N ((I.NO o (G.kZ i o r)).mpr X)
    |some y=>
     obtain⟨w2,S⟩:=y;have a9:w2≠AO.getD i 0:=fun e=>(I.out i J (p i z)).1 o r q S (by rw[N,e]);have a5:w2=w:=by have a:=I.who o _ N;have a':w2<=1:=a;have c:=G.nD i;lia
     subst a5;obtain⟨a,D⟩:=yJ q;rw[wD]at D;split at D;·have:=I.up a d o x ∅ D T;rw[N,mx]at this;exact⟨S,this,f o _ N⟩
     ·cases D
   ·have:o=x:=‹q›;subst this;exact⟨m,ze _,f o _ hv⟩
 ·intro i l O;rw[M.q,zD]at O;have hq:i∉g.queue:=fun q=>O (.inl q);have hn:i∉t:=fun q=>O (.inr q);obtain⟨o1,o2⟩:=I.out i l hq;have v0:g.vals.getD i none=none:=by cases e:g.vals.getD i none with|none=>rfl|some y=>exact absurd ((I.NO i l).mp (by rw[e];exact fun q=>nomatch q)) hq
  rw[tk];by_cases hD:i∈pr.getD x []
  ·obtain⟨n1,n2⟩:=M.pa i l hn v0 hD;refine⟨fun j H P k=>?_,?_⟩
   ·rcases zD.mp P with q|q;·rw[Q j (wc q)];exact o1 j H q k
    ·have:j=x:=‹q›;subst this;rw[f j _ hv];intro e;exact n1 (zT Prod.fst (zt e)).symm
   ·have:=C i l;lia
  ·have F:x∉es.getD i []:=fun q=>hD ((V i l).mpr q);refine⟨fun j H P k=>?_,?_⟩
   ·rcases zD.mp P with q|q;·rw[Q j (wc q)];exact o1 j H q k
    ·have:j=x:=‹q›;subst this;exact absurd H F
   ·have:=OW (es:=es) (i:=i) a1;rw[List.count_eq_zero.mpr F]at this;lia
theorem Ln.start{p:List (List Nat)}{b:B}(G:Gr n AO es p ends)(c:b.vals=ends)(d:b.EB.length=n)(r:∀i,i<n->b.EB.getD i 0=((es.getD i []).length:Nat))(l:b.queue=(List.range n).filter fun i=>(es.getD i []).isEmpty):Ln n AO es ends b 0:=by
 have mem:∀i,i∈b.queue↔i<n/\es.getD i []=[]:=fun i=>by rw[l,zS,zC,u9]
 have z:∀i,many (b.vals.getD i none)=0:=fun i=>by rw[c];cases e:ends.getD i none with|none=>rfl|some x=>exact(G.zero i x e).1
 have k:∀i,ET es (b.queue.take 0) i=(es.getD i []).length:=fun i=>by unfold ET;rw[List.countP_eq_length];intro j Y;simp
 refine⟨by rw[c];exact G.qs,d,?_,fun i a=>((mem i).mp a).1,zx _,fun i a=>?_,fun i a=>by rw[k,r i a],fun i j x y Y Y Y=>by rw[z,z];exact ze _,fun x y Y Y=>by rw[z,z];lia,fun i x h=>(G.zero i x (by rw[<-c];exact h)).2,fun i Y Y=>by rw[c],fun i m a g h=>?_,fun i w m a g h Y=>?_,fun i a f=>⟨fun j Y o=>?_,?_⟩⟩;·rw[l];exact wW.filter _
 ·rw[mem,c,G.qz i a];exact⟨fun h=>⟨a,h⟩,fun h=>h.2⟩
 ·rw[c,g]at h;cases h
 ·rw[c,g]at h;cases h
 ·rw[wI]at o;cases o
 ·rw[k];have:es.getD i []≠[]:=fun q=>f ((mem i).mpr ⟨a,q⟩);exact xF.mpr this
end HM
section
variable{us:List PySem.Value}{u:PySem.Value}{a b C:PySem.Addr}{t' i:Nat}{N ps:List PySem.Str}{x qual:PySem.Str}{A:PySem.Around}{E Q xe:PySem.Value->PySem.Shared->Prop}{e tg:PySem.Expr}{s:PySem.Shared}{f:PySem.Value->PySem.Value->PySem.Sem PySem.Value}{pl:PySem.Sem Bool}{prog:PySem.Program}{fd:PySem.FuncData}{scope:PySem.Scope}{elts:List PySem.Expr}{d:Option PySem.Addr}
namespace L2
open PySem PySem.Spec PyProof.Rows
abbrev Key:=Sum Int Str
def Ph:Key->Value->Bool| .inl k,v=>Value.isInt k v| .inr x,v=>Value.isStrOf x v
def o_(w:World):Key->Int| .inl k=>hashInt k| .inr x=>hashStr w x
theorem BG:∀{k:Key}{v:Value},Ph k v=true->(∃i t,k=Sum.inl i/\v=Value.int i t)\/(∃x t,k=Sum.inr x/\v=Value.str x t) | .inl i,v,h=>by obtain⟨t,e⟩:=Value.isInt_shape (k:=i) (v:=v) h;exact .inl ⟨i,t,rfl,e⟩ | .inr x,v,h=>by obtain⟨t,e⟩:=Value.isStrOf_shape (x:=x) (v:=v) h;exact .inr ⟨x,t,rfl,e⟩
theorem Yj(i:Int)(t:Tok):Ph (.inl i) (.int i t)=true:=by simp[Ph,Value.isInt]
theorem Yi(x:Str)(t:Tok):Ph (.inr x) (.str x t)=true:=by simp[Ph,Value.isStrOf]
theorem jO(a b:Int):decide ((Sum.inl a:Key)=Sum.inl b)=(a==b):=by
 by_cases e:a=b;·subst e;simp
 ·have h:¬(Sum.inl a:Key)=Sum.inl b:=fun q=>e (Sum.inl.inj q);rw[zo h];exact(zL.mpr e).symm
theorem jL(a b:Str):decide ((Sum.inr a:Key)=Sum.inr b)=decide (a=b):=by
 by_cases e:a=b;·subst e;simp
 ·have h:¬(Sum.inr a:Key)=Sum.inr b:=fun q=>e (Sum.inr.inj q);rw[zo h,zo e]
theorem jN(a:Int)(b:Str):decide ((Sum.inl a:Key)=Sum.inr b)=false:=zo (fun q=>nomatch q)
theorem jM(a:Str)(b:Int):decide ((Sum.inr a:Key)=Sum.inl b)=false:=zo (fun q=>nomatch q)
def BM(prog:Program)(w:World):PySem.KeyKind prog w Key where
 is:=Ph
 hash:=o_ w
 inj:=fun v a b g d=>by
  rcases BG g with⟨i,t,rfl,rfl⟩ |⟨x,t,rfl,rfl⟩
  ·rcases BG d with⟨j,u,rfl,e⟩ |⟨y,u,rfl,e⟩;·injection e with e1 _;rw[e1]
   ·exact nomatch e
  ·rcases BG d with⟨j,u,rfl,e⟩ |⟨y,u,rfl,e⟩;·exact nomatch e
   ·injection e with e1 _;rw[e1]
 byValue:=fun k v h=>by rcases BG h with⟨i,t,rfl,rfl⟩ |⟨x,t,rfl,rfl⟩<;>rfl
 pyHash:=fun c h=>by
  rcases BG c with⟨i,t,rfl,rfl⟩ |⟨x,t,rfl,rfl⟩;·exact wpAny_pyHash_int h
  ·exact wpAny_pyHash_str h
 eqBool:=fun f c h=>by
  rcases BG f with⟨i,t,rfl,rfl⟩ |⟨x,t,rfl,rfl⟩
  ·rcases BG c with⟨j,u,rfl,rfl⟩ |⟨y,u,rfl,rfl⟩;·rw[jO]at h;exact wpAny_eqBool_int h
   ·rw[jN]at h;exact SeqAt.EqAt.int_str i t y u _ _ _ _ h
  ·rcases BG c with⟨j,u,rfl,rfl⟩ |⟨y,u,rfl,rfl⟩;·rw[jM]at h;exact SeqAt.EqAt.str_int x t j u _ _ _ _ h
   ·rw[jL]at h;exact wpAny_eqBool_str h
 «strs»:=fun k x t v h=>by
  rcases BG h with⟨i,u,rfl,e⟩ |⟨y,u,rfl,e⟩;·exact nomatch e
  ·injection e with e1 _;subst e1;cases v<;>rfl
theorem Sz(prog:Program)(w:World)(i:Int)(t:Tok):(BM prog w).is (.inl i) (.int i t)=true:=Yj i t
theorem Sy(prog:Program)(w:World)(x:Str)(t:Tok):(BM prog w).is (.inr x) (.str x t)=true:=Yi x t
inductive V where|Bz|bl(b:Bool) |int(i:Int) |str(x:Str) |Rh(b:Array UInt8) |nQ(b:UInt64) |ref(a:Addr) |ty(n:String)deriving DecidableEq
def AW:V->Value->Prop| .Bz,u=>u=Value.none| .bl b,u=>u=Value.bool b| .int i,u=>∃t,u=Value.int i t| .str x,u=>∃t,u=Value.str x t| .Rh b,u=>∃t,u=Value.bytes b t| .nQ b,u=>∃t,u=Value.float b t| .ref a,u=>u=Value.ref a| .ty n,u=>u=Value.type n
abbrev AF:List V->List Value->Prop:=Paired AW
theorem AF.length{xs:List V}(r:AF xs us):xs.length=us.length:=zE r
theorem AF.get:∀{xs:List V}{us:List Value}{i:Nat}{x:V},AF xs us->xs[i]?=some x->∃u,us[i]?=some u/\AW x u|_,_,_,_,.nil,e=>by simp at e|_,_,0,_,.cons r _,e=>by simp at e;subst e;exact⟨_,rfl,r⟩ |_,_,i+1,x,.cons _ t,e=>by obtain⟨u,b,a⟩:=AF.get (i:=i) (x:=x) t ‹e›;exact⟨u,‹b›,a⟩
theorem AF.set{x:V}(r:AW x u):∀{xs:List V}{us:List Value}(i:Nat),AF xs us->AF (xs.set i x) (us.set i u) |_,_,_,.nil=> .nil|_,_,0,.cons _ t=> .cons r t|_,_,i+1,.cons q t=> .cons q (AF.set r i t)
theorem AF.append:∀{xs a:List V}{us b:List Value},AF xs us->AF a b->AF (xs++a) (us++b) |_,_,_,_,.nil,s=>s|_,_,_,_,.cons r t,s=> .cons r (AF.append t s)
theorem AF.take:∀{xs:List V}{us:List Value}(n:Nat),AF xs us->AF (xs.take n) (us.take n) |_,_,0,_=> .nil|_,_,_+1,.nil=> .nil|_,_,n+1,.cons r t=> .cons r (AF.take n t)
theorem AF.drop:∀{xs:List V}{us:List Value}(n:Nat),AF xs us->AF (xs.drop n) (us.drop n) |_,_,0,r=>r|_,_,_+1,.nil=> .nil|_,_,n+1,.cons _ t=>AF.drop n t
def FK:Option V->Option Value->Prop|some v,some u=>AW v u|none,none=>True|_,_=>False
def KV{a:Type}:List (a×V)->List (a×Value)->Prop:=Paired fun(p:a×V) (q:a×Value)=>p.1=q.1/\AW p.2 q.2
def kV:Key->V| .inl i=> .int i| .inr x=> .str x
inductive HO where|lst(xs:List V) |tup(xs:List V) |dK(kvs:List (Key×V)) |dT(kvs:List (List Key×V)) |set(S:Int->Bool)(n:Nat) |ins(C dx:Addr)(fs:List (Str×V)) |own(x:Addr) |xd(fs:List (Str×V)) |met(f x:Addr) |oI(lo hi:Int) |Hw(o:Obj)(u:HO) |iN(ps:Array Value) |ext(φ:Heap->Prop)
abbrev Hp:=Addr->Option HO
def Av(H:Hp)(a:Addr)(o:HO):Hp:=fun b=>if b=a then some o else H b
theorem Aa{H:Hp}{o:HO}:Av H a o a=some o:=by unfold Av;rw[zc rfl]
theorem Ac{H:Hp}{o:HO}(h:b≠a):Av H a o b=H b:=by unfold Av;rw[zb h]
theorem DH{H:Hp}{o u:HO}:Av (Av H a o) a u=Av H a u:=by funext b;unfold Av;split<;>rfl
theorem Ss{H:Hp}{o u:HO}(h:H a=some o)(c:H b=some u)(d:o≠u):a≠b:=by intro e;subst e;rw[h]at c;exact d (zt c)
theorem Ab{H:Hp}{o:HO}(h:H a=some o)(c:H b=none):a≠b:=by intro e;subst e;rw[h]at c;cases c
section
variable(P:Program)(w:World)
def B6(H:Hp)(h:Heap)(a:Addr):HO->Prop| .lst xs=>xs.length<=sizeLine/\∃(c:List Value)(n:Nat),AF xs c/\h.get? a=some {cls:= .type "list",data:= .seq c.toArray n} | .tup xs=>xs.length<=sizeLine/\∃c:List Value,AF xs c/\IsTup h a c.toArray| .dK b=>b.length<=sizeLine/\(a==sysModules)=false/\∃j,KV b j/\h.DictOf (BM P w) a j| .dT b=>b.length<=sizeLine/\(a==sysModules)=false/\∃xs:List (List Key×Addr×Value),Paired (fun(p:List Key×V) (q:List Key×Addr×Value)=>p.1=q.1/\H q.2.1=some (.tup (p.1.map kV))/\AW p.2 q.2.2) b xs/\∃o m y,h.get? a=some o/\o.ExactDict/\o.data= .dict m y/\m.toList=xs.map (entryOfKey (tupleKind (BM P w)))/\(xs.map (·.1)).Nodup| .set S n=>h.SetOf (intKind P w) a S n| .ins C g e=>H g=some (.own a)/\e.length<=1000/\g≠a/\h.get? a=some (instObj C g)/\∃d,h.Ns1 g d/\(∀f,FK (e.lookup f) (d f))/\PySem.Within d (e.map (·.1)) | .own _=>∃o,h.get? a=some o| .xd e=>∃d,h.Ns1 a d/\∀f,FK (e.lookup f) (d f) | .oI r s=>∃t u v,h.get? a=some {cls:= .type "range",data:= .fields #[.int r t,.int s u,.int 1 v]} | .Hw o u=>h.get? a=some o/\B6 H h a u| .iN ps=>h.get? a=some {cls:= .none,data:= .fields ps} | .met f x=>h.get? a=some (methodObj (.ref f) (.ref x)) | .ext i=>i h/\(∃o,h.get? a=some o)/\∀l k:Heap,i l->(∀o,l.get? a=some o->k.get? a=some o)->i k
def FL(H:Hp)(h:Heap):Prop:=∀a o,H a=some o->B6 P w H h a o
end
section
variable{P:Program}{w:World}{H H':Hp}{h h':Heap}{a:Addr}{o:HO}
theorem B6.lt(x:B6 P w H h a o):a<h.objs.size:=by cases o with|lst xs=>obtain⟨Y,Y,Y,Y,e⟩:=x;exact zA e|tup xs=>obtain⟨Y,Y,Y,p⟩:=x;exact p.lt|dK b=>obtain⟨Y,Y,Y,Y,o,Y,Y,e,Y⟩:=x;exact zA e|dT b=>obtain⟨Y,Y,Y,Y,o,Y,Y,e,Y⟩:=x;exact zA e|set S n=>obtain⟨o,Y,Y,Y,e,Y⟩:=x;exact zA e|ins C k c=>obtain⟨Y,Y,Y,e,Y⟩:=x;exact zA e|own y=>obtain⟨Y,e⟩:=x;exact zA e|xd c=>obtain⟨Y,⟨Y,Y,Y,e,Y⟩,Y⟩:=x;exact zA e|oI i j=>obtain⟨Y,Y,Y,e⟩:=x;exact zA e|Hw g u=>obtain⟨e,Y⟩:=x;exact zA e|iN ps=>exact zA (show h.get? a=some _ from x) |met f y=>exact zA (show h.get? a=some _ from x) |ext d=>obtain⟨Y,⟨Y,e⟩,Y⟩:=x;exact zA e
theorem Paired.fM{g e:Type}{F G:g->e->Prop}:∀{d:List g}{c:List e},Paired F d c->(∀a b,F a b->G a b)->Paired G d c|_,_,.nil,_=> .nil|_,_,.cons r t,f=> .cons (f _ _ r) (Paired.fM t f)
theorem B6.Im(x:B6 P w H h a o)(k:∀b u,(b=a\/H b=some (.own a))->h.get? b=some u->h'.get? b=some u)(I:∀b,H b=some (.own a)->H' b=some (.own a))(G:∀b xs,H b=some (.tup xs)->H' b=some (.tup xs)):B6 P w H' h' a o:=by induction o with|lst xs=>obtain⟨z,l,n,r,e⟩:=x;exact⟨z,l,n,r,k _ _ (.inl rfl) e⟩ |tup xs=>obtain⟨z,l,r,g,e,c⟩:=x;exact⟨z,l,r,g,k _ _ (.inl rfl) e,c⟩ |dK A=>obtain⟨z,y,D,r,g,i,j,e,c⟩:=x;exact⟨z,y,D,r,g,i,j,k _ _ (.inl rfl) e,c⟩ |dT A=>obtain⟨z,y,xs,r,g,i,j,e,c⟩:=x;exact⟨z,y,xs,Paired.fM r fun p q z=>⟨z.1,G _ _ z.2.1,z.2.2⟩,g,i,j,k _ _ (.inl rfl) e,c⟩ |set S n=>obtain⟨g,i,j,t,e,c⟩:=x;exact⟨g,i,j,t,k _ _ (.inl rfl) e,c⟩ |ins C O J=>obtain⟨d,z,E,e,s,⟨m,i,j,K,c⟩,r⟩:=x;exact⟨I _ d,z,E,k _ _ (.inl rfl) e,s,⟨m,i,j,k _ _ (.inr d) K,c⟩,r⟩ |own y=>obtain⟨g,e⟩:=x;exact⟨g,k _ _ (.inl rfl) e⟩ |xd J=>obtain⟨s,⟨m,i,j,e,c⟩,r⟩:=x;exact⟨s,⟨m,i,j,k _ _ (.inl rfl) e,c⟩,r⟩ |oI M N=>obtain⟨t,u,v,e⟩:=x;exact⟨t,u,v,k _ _ (.inl rfl) e⟩ |Hw g u F=>obtain⟨e,q⟩:=x;exact⟨k _ _ (.inl rfl) e,F q⟩ |iN ps=>have e:h.get? a=some {cls:= .none,data:= .fields ps}:=x;show h'.get? a=some {cls:= .none,data:= .fields ps};exact k a _ (.inl rfl) e|met f y=>have e:h.get? a=some (methodObj (.ref f) (.ref y)):=x;show h'.get? a=some (methodObj (.ref f) (.ref y));exact k a _ (.inl rfl) e|ext L=>obtain⟨p,⟨o,e⟩,B⟩:=x;exact⟨B _ _ p fun o q=>k _ _ (.inl rfl) q,⟨o,k _ _ (.inl rfl) e⟩,B⟩
theorem FL.lt(x:FL P w H h)(e:H a=some o):a<h.objs.size:=(x a o e).lt
theorem FL.fresh(x:FL P w H h)(e:h.objs.size<=a):H a=none:=by cases q:H a with|none=>rfl|some u=>exact absurd (zF (x.lt q) e) (yV _)
theorem FL.kept(x:FL P w H h)(k:∀b u,h.get? b=some u->h'.get? b=some u):FL P w H h':=fun a o e=>(x a o e).Im (fun b u Y q=>k b u q) (fun Y q=>q) fun Y Y q=>q
theorem FL.laid(x:FL P w H h)(k:∀b u,h.get? b=some u->h'.get? b=some u)(g:h.objs.size<=a)(d:B6 P w (Av H a o) h' a o):FL P w (Av H a o) h':=fun b u e=>by
 have f:=x.fresh g;by_cases hb:b=a;·subst hb;rw[Aa]at e;cases e;exact d
 ·rw[Ac hb]at e;exact(x b u e).Im (fun c v Y q=>k c v q) (fun c q=>by rw[Ac (Ab q f)];exact q) fun c xs q=>by rw[Ac (Ab q f)];exact q
end
def Rd(H:Hp)(a:Addr)(u:HO):Prop:=H a=some u\/∃o,H a=some (.Hw o u)
theorem Rd.ok{P:Program}{w:World}{H:Hp}{h:Heap}{u:HO}(r:Rd H a u)(x:FL P w H h):B6 P w H h a u:=by
 rcases r with r|⟨o,r⟩;·exact x a u r
 ·obtain⟨Y,q⟩:=x a _ r;exact q
def iA:Option HO->Prop|some (.lst _)=>True|some (.dK _)=>True|some (.dT _)=>True|some (.set _ _)=>True|some (.ins _ _ _)=>True|some (.ext _)=>True|_=>False
section
variable{P:Program}{w:World}{H:Hp}{h h':Heap}{x e:Addr}{o':HO}
theorem FL.write(n:FL P w H h)(f:iA (H x))(m:e=x\/H e=some (.own x))(k:∀b u,b≠e->h.get? b=some u->h'.get? b=some u)(j:∃u,h'.get? e=some u)(i:B6 P w (Av H x o') h' x o'):FL P w (Av H x o') h':=fun b u q=>by
 have a:∀c y,H c=some (.own y)->c≠x:=fun c y r z=>by subst z;rw[r]at f;exact f
 have d:∀c xs,H c=some (.tup xs)->c≠x:=fun c xs r z=>by subst z;rw[r]at f;exact f
 by_cases hb:b=x;·subst hb;rw[Aa]at q;cases q;exact i
 ·rw[Ac hb]at q;by_cases hbe:b=e
  ·have l:H b=some (.own x):=by
    rcases m with z|z;·exact absurd (hbe.trans z) hb
    ·rw[hbe];exact z
   rw[q]at l;cases l;obtain⟨v,o⟩:=j;exact⟨v,by rw[hbe];exact o⟩
  ·refine(n b u q).Im (fun c v g r=>k c v ?_ r) (fun c r=>by rw[Ac (a c b r)];exact r) fun c xs r=>by rw[Ac (d c xs r)];exact r
   rcases g with rfl|g;·exact hbe
   ·rintro rfl;rcases m with z|z;·exact a c b g z
    ·rw[g]at z;cases z;exact hb rfl
end
structure Un(fs ex:List Addr)(H H':Hp)(h h':Heap):Prop where
 keep:∀b o,h.get? b=some o->H b=none->b∉fs->b∉ex->h'.get? b=some o
 slot:∀b o,h.get? b=some o->H b=none->b∈fs->b∉ex->∃sl,h'.get? b=some {o with slots:=sl}
 free:∀b o,h.get? b=some o->H b=none->b∉ex->H' b=none
 there:∀b o,h.get? b=some o->b∉ex->∃o',h'.get? b=some o'
 tups:∀b xs,H b=some (.tup xs)->H' b=some (.tup xs)
 frzs:∀b o u,H b=some (.Hw o u)->H' b=some (.Hw o u)
 tbls:∀b ps,H b=some (.iN ps)->∃more,H' b=some (.iN (ps++more))
section
variable{fs fs' ex ex':List Addr}{H H1 H2:Hp}{h h1 h2 h':Heap}{a x e:Addr}{o:HO}
theorem Un.any(u:Un fs ex H H1 h h1){a:Obj}(q:h.get? b=some a)(n:H b=none)(c:b∉ex):∃d,h1.get? b=some {a with slots:=d}:=by
 by_cases hb:b∈fs;·exact u.slot b a q n hb c
 ·exact⟨a.slots,u.keep b a q n hb c⟩
theorem Un.kept(k:∀b u,h.get? b=some u->h'.get? b=some u):Un fs ex H H h h':=⟨fun b a q Y Y Y=>k b a q,fun b a q Y Y Y=>⟨a.slots,k b a q⟩,fun Y Y Y n Y=>n,fun b a q Y=>⟨a,k b a q⟩,fun Y Y q=>q,fun Y Y Y q=>q,fun Y ps q=>⟨#[],by rw[q];simp⟩⟩
theorem Un.refl:Un fs ex H H h h:=Un.kept fun Y Y q=>q
theorem Un.laid(k:∀b u,h.get? b=some u->h'.get? b=some u)(d:h.objs.size<=a)(c:H a=none):Un fs ex H (Av H a o) h h' where
 keep:=fun b u q Y Y Y=>k b u q
 slot:=fun b u q Y Y Y=>⟨u.slots,k b u q⟩
 free:=fun b u q n Y=>by rw[Ac (zV (zF (zA q) d))];exact n
 there:=fun b u q Y=>⟨u,k b u q⟩
 tups:=fun b xs q=>by rw[Ac (Ab q c)];exact q
 frzs:=fun b u xs q=>by rw[Ac (Ab q c)];exact q
 tbls:=fun b ps q=>⟨#[],by rw[Ac (Ab q c),q];simp⟩
theorem Un.write(a:iA (H x))(j:e=x\/H e=some (.own x))(k:∀b u,b≠e->h.get? b=some u->h'.get? b=some u)(d:∃u,h'.get? e=some u):Un fs ex H (Av H x o) h h':=by
 have f:∀b,H b=none->b≠x:=fun b n z=>by subst z;rw[n]at a;exact a
 have g:∀b,H b=none->b≠e:=fun b n z=>by
  subst z;rcases j with r|r;·exact f b n r
  ·rw[n]at r;cases r
 have c:∀b u,H b=some u->¬iA (some u)->b≠x:=fun b u q i z=>by subst z;rw[q]at a;exact i a
 refine⟨fun b u q n Y Y=>k b u (g b n) q,fun b u q n Y Y=>⟨u.slots,k b u (g b n) q⟩,fun b u q n Y=>by rw[Ac (f b n)];exact n,fun b u q Y=>?_,fun b xs q=>by rw[Ac (c b _ q fun z=>z)];exact q,fun b u xs q=>by rw[Ac (c b _ q fun z=>z)];exact q,fun b ps q=>⟨#[],by rw[Ac (c b _ q fun z=>z),q];simp⟩⟩;by_cases hbe:b=e;·subst hbe;exact d
 ·exact⟨u,k b u hbe q⟩
end
def nv(h:Heap)(H:Hp):List Addr:=(List.range h.objs.size).filter fun a=>(H a).isSome
def Q2(h:Heap)(H:Hp):Heap:=PySem.W.hideAll h (nv h H)
theorem Yn(h:Heap)(H:Hp):(Q2 h H).objs.size=h.objs.size:=PySem.W.hideAll_size _ _
theorem bZ{h:Heap}{H:Hp}{o:Obj}(e:h.get? b=some o)(n:H b=none):(Q2 h H).get? b=some o:=PySem.W.hideAll_get _ e fun a=>by have q:(H b).isSome=true:=(zS.mp a).2;rw[n]at q;simp at q
theorem fv{h:Heap}{H:Hp}{o:Obj}(e:(Q2 h H).get? b=some o):h.get? b=some o/\H b=none:=by have a:h.get? b=some o:=PySem.W.of_hideAll (nv h H) e;refine⟨a,?_⟩;cases q:H b with|none=>rfl|some x=>have c:b∈nv h H:=zS.mpr ⟨zC.mpr (zA a),by simp[q]⟩;have z:(Q2 h H).get? b=none:=PySem.W.hideAll_none (nv h H) c;rw[z]at e;cases e
structure Mod(K:Frag)(mg:Str->Option Value)(base:Heap):Prop where
 dD:K.In base
 glob:base.Ns mainGlobals mg
 blt:∃mb,base.Ns builtinsNs mb/\∀x:Str,x≠"__name__"->mb x=bootBuiltins x
 nolimit:base.NoLimit
structure Cx where
 prog:Program
 w:World
 K:Frag
 mg:Str->Option Value
 base:Heap
 A:Around
 N:List Str
 s_0:Shared
 H_0:Hp
 env:Env
 outer:List Env
 stack:List Env
 ex:List Addr
 fn:Str->Bool
 calm:Bool
 pn:List (Addr×Obj)
 xe:Value->Shared->Prop
abbrev wpX(X:Cx){a}(c:Sem a):=wpAny (model X.prog X.w) X.A c
def Nm(l:List Env):List Addr:=l.filterMap (·.frame)
abbrev Cx.fs(X:Cx):List Addr:=Nm X.outer
def lg(a:Scope)(x:Str):Prop:=a.names.lookup x=some .local\/a.names.lookup x=some .cell\/a.names.lookup x=some .free
def Loc(a:Scope)(x:Str):Prop:=a.names.lookup x=some .local\/a.names.lookup x=some .cell
def Look(env:Env)(h:Heap)(m:Str->Option Value)(x:Str)(u:Value):Prop:=(env.kindOf x=some .local/\m x=some u)\/((env.kindOf x=some .cell\/env.kindOf x=some .free)/\∃c,env.cells.lookup x=some c/\h.IsCell c (some u))
structure Cx.Ok(X:Cx):Prop where
 mod:Mod X.K X.mg X.base
 kind:X.env.scope.kind= .function
 glob:X.env.globals=mainGlobals
 blt:X.env.builtins=builtinsNs
 above:X.s_0.heap.objs.size<=X.env.locals
 inj:∀x y c,X.env.cells.lookup x=some c->X.env.cells.lookup y=some c->x=y
 has:∀x,(X.env.kindOf x=some .cell\/X.env.kindOf x=some .free)->∃c,X.env.cells.lookup x=some c
 kD:∀x c,X.fn x=true->X.env.cells.lookup x=some c->X.s_0.heap.objs.size<=c
 hd:X.calm=true->X.A.handled=none
 frames:X.A.frames=some X.stack
 Zw:X.stack=X.outer\/(X.stack=X.env::X.outer/\X.env.frame=some X.env.locals)
 kY:∀b∈X.ex,b≠X.env.locals/\∀x c,X.env.cells.lookup x=some c->c≠b
 bs:∀b o,X.base.get? b=some o->X.s_0.heap.get? b=some o/\X.H_0 b=none
 Zg:X.base.objs.size<=X.s_0.heap.objs.size
 UX:∀b o,X.base.get? b=some o->b∉X.ex
 Vy:∀b∈X.ex,b∉X.fs
 HU:X.s_0.heap.FunFrames X.base X.outer
 dE:∀b∈X.fs,X.H_0 b=none
structure As(X:Cx)(pins:List (Addr×Obj))(σ:List (Option V))(H:Hp)(s:Shared):Prop where
 ok:X.Ok
 os:s.os=X.s_0.os
 bare:AllBare s.gens
 base:Un X.fs X.ex X.H_0 H X.s_0.heap s.heap
 loc:∃m,s.heap.Ns X.env.locals m/\∀(i:Nat)(x:Str)(v:V),X.N[i]?=some x->σ[i]?=some (some v)->lg X.env.scope x->∃u,AW v u/\Look X.env s.heap m x u
 cell:∀x c,X.env.cells.lookup x=some c->∃v,s.heap.IsCell c v
 free:H X.env.locals=none
 CM:∀x c,X.env.cells.lookup x=some c->H c=none
 pin:∀p∈X.pn++pins,s.heap.get? p.1=some p.2/\H p.1=none/\p.1≠X.env.locals/\p.1∉X.fs/\∀v,p.2.data≠ .cell v
 Bw:FL X.prog X.w H s.heap
 len:σ.length=X.N.length
section
variable{X:Cx}{pins:List (Addr×Obj)}{σ:List (Option V)}{H H':Hp}{s:Shared}{h':Heap}
theorem Cx.Ok.oW(a:X.Ok){o:Obj}(e:X.base.get? b=some o):b∉X.fs:=fun c=>by have:=(a.HU.mem c).1;rw[e]at this;cases this
theorem As.bs(I:As X pins σ H s):∀b o,X.base.get? b=some o->s.heap.get? b=some o/\H b=none:=fun b o e=>⟨I.base.keep b o (I.ok.bs b o e).1 (I.ok.bs b o e).2 (I.ok.oW e) (I.ok.UX b o e),I.base.free b o (I.ok.bs b o e).1 (I.ok.bs b o e).2 (I.ok.UX b o e)⟩
theorem As.bk(I:As X pins σ H s):∀b o,X.base.get? b=some o->s.heap.get? b=some o:=fun b o e=>(I.bs b o e).1
theorem As.mod(I:As X pins σ H s):Mod X.K X.mg X.base:=I.ok.mod
theorem As.Gp(I:As X pins σ H s):X.K.In s.heap:=I.ok.mod.dD.keeps I.bk
theorem As.lt(I:As X pins σ H s):X.env.locals<s.heap.objs.size:=let⟨_,hn,_⟩:=I.loc;hn.lt
theorem As.sz(I:As X pins σ H s):X.s_0.heap.objs.size<=s.heap.objs.size:=z_ I.ok.above (wj I.lt)
theorem As.oV(I:As X pins σ H s)(h:s.heap.objs.size<=a):a∉X.fs:=fun c=>by obtain⟨Y,o,b,Y⟩:=I.ok.HU.mem c;exact absurd (zF (zA b) (z_ I.sz h)) (yV _)
theorem As.nR(I:As X pins σ H s):∀x c,X.env.cells.lookup x=some c->c≠X.env.locals:=fun x c e z=>by obtain⟨v,o,d,f⟩:=I.cell x c e;obtain⟨m,⟨g,h,i,a,b,Y⟩,Y⟩:=I.loc;rw[z,a]at d;cases d;rw[b]at f;cases f
theorem As.HU(I:As X pins σ H s):s.heap.FunFrames X.base X.outer:=by
 have f:∀(l:List Env),(∀b∈Nm l,b∈X.fs)->X.s_0.heap.FunFrames X.base l->s.heap.FunFrames X.base l:=by intro l;induction l with|nil=>intro Y Y;trivial|cons env r h=>intro g m;obtain⟨n,⟨L,o,a,k,j,p⟩,i⟩:=m;have d:L∈X.fs:=g L (by unfold Nm;rw[yu,a];exact zh);obtain⟨q,e⟩:=I.base.slot L o j (I.ok.dE L d) d fun z=>I.ok.Vy L z d;exact⟨n,⟨L,_,a,k,e,p⟩,h (fun b c=>g b (by unfold Nm;rw[yu,a];exact zg _ c)) i⟩
 exact f X.outer (fun Y c=>c) I.ok.HU
theorem As.stack(I:As X pins σ H s):s.heap.FunFrames X.base X.stack:=by
 rcases I.ok.Zw with e|⟨e,b⟩;·rw[e];exact I.HU
 ·rw[e];obtain⟨m,a,Y⟩:=I.loc;refine .cons (by rw[I.ok.kind];decide) b a ?_ I.HU;exact Heap.get?_none_of_le (z_ I.ok.Zg I.ok.above)
theorem As.Jz(I:As X pins σ H s):∀b∈Nm X.stack,b∈X.env.locals::X.fs:=fun b a=>by
 rcases I.ok.Zw with e|⟨e,c⟩;·rw[e]at a;exact zg _ a
 ·rw[e]at a;unfold Nm at a;rw[yu,c]at a;exact a
theorem As.PV(I:As X pins σ H s):∀b∈Nm X.stack,H b=none:=fun b a=>by
 rcases zw.mp (I.Jz b a)with e|a;·rw[e];exact I.free
 ·obtain⟨Y,o,c,Y⟩:=I.ok.HU.mem a;exact I.base.free b o c (I.ok.dE b a) fun z=>I.ok.Vy b z a
theorem As.step{g':Array GenState}{d':Drawn}{ch:List Addr}(I:As X pins σ H s)(g:∀b∈ch,(b∈X.ex\/X.s_0.heap.objs.size<=b)/\b≠X.env.locals/\(∀x c,X.env.cells.lookup x=some c->c≠b)/\∀p∈X.pn++pins,p.1≠b)(keep:∀b o,b≠X.env.locals->b∉X.fs->b∉ch->s.heap.get? b=some o->H b=none->h'.get? b=some o)(slot:∀b o,b≠X.env.locals->b∈X.fs->b∉ch->s.heap.get? b=some o->H b=none->∃F,h'.get? b=some {o with slots:=F})(free:∀b o,b∉ch->s.heap.get? b=some o->H b=none->H' b=none)(there:∀b o,b∉ch->s.heap.get? b=some o->∃A,h'.get? b=some A)(tups:∀b xs,H b=some (.tup xs)->H' b=some (.tup xs))(frzs:∀b o u,H b=some (.Hw o u)->H' b=some (.Hw o u))(tbls:∀b ps,H b=some (.iN ps)->∃C,H' b=some (.iN (ps++C)))(N:∀m,s.heap.Ns X.env.locals m->h'.Ns X.env.locals m)(G:FL X.prog X.w H' h')(S:AllBare g'):As X pins σ H' {s with heap:=h',gens:=g',drawn:=d',toks:=t'}:=by
 have B:∀b o,X.s_0.heap.get? b=some o->b≠X.env.locals:=fun b o e=>zV (zF (zA e) I.ok.above);have j:∀b o,X.s_0.heap.get? b=some o->b∉X.ex->b∉ch:=fun b o e a w=>by
  rcases(g b w).1 with z|z;·exact a z
  ·exact absurd (zF (zA e) z) (yV _)
 have h:∀x c,X.env.cells.lookup x=some c->∀v,s.heap.IsCell c v->h'.IsCell c v:=fun x c e v ⟨o,y,J⟩=>by
  have f:c∉ch:=fun z=>(g c z).2.2.1 x c e rfl;by_cases hc:c∈X.fs;·obtain⟨F,q⟩:=slot c o (I.nR x c e) hc f y (I.CM x c e);exact⟨_,q,J⟩
  ·exact⟨o,keep c o (I.nR x c e) hc f y (I.CM x c e),J⟩
 refine⟨I.ok,I.os,S,⟨fun b o e n w a=>?_,fun b o e n w a=>?_,fun b o e n a=>?_,fun b o e a=>?_,fun b xs e=>tups b xs (I.base.tups b xs e),fun b o xs e=>frzs b o xs (I.base.frzs b o xs e),fun b ps e=>?_⟩,?_,fun x c e=>?_,?_,fun x c e=>?_,fun p M=>?_,G,I.len⟩;·exact keep b o (B b o e) w (j b o e a) (I.base.keep b o e n w a) (I.base.free b o e n a)
 ·obtain⟨F,t⟩:=I.base.slot b o e n w a;obtain⟨E,D⟩:=slot b _ (B b o e) w (j b o e a) t (I.base.free b o e n a);exact⟨E,D⟩
 ·obtain⟨A,t⟩:=I.base.there b o e a;exact free b A (j b o e a) t (I.base.free b o e n a)
 ·obtain⟨A,t⟩:=I.base.there b o e a;exact there b A (j b o e a) t
 ·obtain⟨P,t⟩:=I.base.tbls b ps e;obtain⟨O,D⟩:=tbls b _ t;exact⟨P++O,by rw[D,Array.append_assoc]⟩
 ·obtain⟨m,Q,R⟩:=I.loc;refine⟨m,N m Q,fun i x v t D T=>?_⟩;obtain⟨u,r,l⟩:=R i x v t D T;exists u,r;rcases l with l|⟨k,c,e,z⟩;·exact .inl l
  ·exact .inr ⟨k,c,e,h x c e _ z⟩
 ·obtain⟨v,z⟩:=I.cell x c e;exact⟨v,h x c e v z⟩
 ·obtain⟨m,⟨o,Y,Y,y,Y⟩,Y⟩:=I.loc;exact free _ o (fun z=>(g _ z).2.1 rfl) y I.free
 ·obtain⟨v,o,y,J⟩:=I.cell x c e;exact free c o (fun z=>(g c z).2.2.1 x c e rfl) y (I.CM x c e)
 ·obtain⟨e,n,L,K,d⟩:=I.pin p M;have f:p.1∉ch:=fun z=>(g p.1 z).2.2.2 p M rfl;exact⟨keep p.1 p.2 L K f e n,free p.1 p.2 f e n,L,K,d⟩
theorem As.un(I:As X pins σ H s)(u:Un X.fs [] H H' s.heap h')(c:FL X.prog X.w H' h'):As X pins σ H' {s with heap:=h',toks:=t'}:=by obtain⟨m,⟨o,t,v,h,r⟩,Y⟩:=id I.loc;obtain⟨l,k⟩:=u.any h I.free (by simp);exact I.step (g':=s.gens) (d':=s.drawn) (ch:=[]) (fun Y z=>nomatch z) (fun b o Y d Y e n=>u.keep b o e n d (by simp)) (fun b o Y d Y e n=>u.slot b o e n d (by simp)) (fun b o Y e n=>u.free b o e n (by simp)) (fun b o Y e=>u.there b o e (by simp)) u.tups u.frzs u.tbls (fun q j=>by obtain⟨p,f,g,a,i⟩:=j;rw[h]at a;cases a;exact⟨_,f,g,k,i⟩) c I.bare
theorem As.call{g':Array GenState}{d':Drawn}{ch:List Addr}(I:As X pins σ H s)(u:Un (Nm X.stack) ch H H' s.heap h')(g:FL X.prog X.w H' h')(t:AllBare g')(f:∀b∈ch,(b∈X.ex\/X.s_0.heap.objs.size<=b)/\b≠X.env.locals/\(∀x c,X.env.cells.lookup x=some c->c≠b)/\∀p∈X.pn++pins,p.1≠b):As X pins σ H' {s with heap:=h',gens:=g',drawn:=d',toks:=t'}:=by obtain⟨m,⟨o,B,C,k,r⟩,Y⟩:=id I.loc;obtain⟨w,h⟩:=u.any k I.free fun z=>(f _ z).2.1 rfl;exact I.step (ch:=ch) f (fun b o h v a e n=>u.keep b o e n (fun z=>(zw.mp (I.Jz b z)).elim h v) a) (fun b o Y Y a e n=>u.any e n a) (fun b o a e n=>u.free b o e n a) (fun b o a e=>u.there b o e a) u.tups u.frzs u.tbls (fun A q=>by obtain⟨y,i,j,d,l⟩:=q;rw[k]at d;cases d;exact⟨_,i,j,h,l⟩) g t
theorem As.turned{a:Addr}(I:As X pins σ H s)(k:∀b o,b≠a->s.heap.get? b=some o->h'.get? b=some o)(i:H a=none)(g:a≠X.env.locals)(y:a∈X.ex\/X.s_0.heap.objs.size<=a)(w:∀x c,X.env.cells.lookup x=some c->c≠a)(t:∀p∈X.pn++pins,p.1≠a):As X pins σ H {s with heap:=h',toks:=t'}:=by
 have f:∀b u,H b=some u->b≠a:=fun b u e z=>by rw[z,i]at e;cases e
 refine I.step (g':=s.gens) (d':=s.drawn) (ch:=[a]) (fun b l=>?_) (fun b o Y Y d e Y=>k b o (fun z=>d (by simp[z])) e) (fun b o Y Y d e Y=>⟨o.slots,k b o (fun z=>d (by simp[z])) e⟩) (fun Y Y Y Y n=>n) (fun b o d e=>⟨o,k b o (fun z=>d (by simp[z])) e⟩) (fun Y Y e=>e) (fun Y Y Y e=>e) (fun b ps e=>⟨#[],by rw[e];simp⟩) (fun m j=>?_) (fun b u e=>?_) I.bare;·have e:b=a:=‹l›;subst e;exact⟨y,g,w,t⟩
 ·obtain⟨o,A,B,h,r⟩:=j;exact⟨o,A,B,k _ o (zN g) h,r⟩
 ·refine(I.Bw b u e).Im (fun c v d q=>k c v ?_ q) (fun Y q=>q) fun Y Y q=>q;rcases d with z|z;·rw[z];exact f b u e
  ·exact f c _ z
theorem As.tok(I:As X pins σ H s)(t:Nat):As X pins σ H {s with toks:=t}:=I.un (h':=s.heap) (t':=t) Un.refl I.Bw
theorem As.kept(I:As X pins σ H s)(k:∀b u,s.heap.get? b=some u->h'.get? b=some u):As X pins σ H {s with heap:=h',toks:=t'}:=I.un (Un.kept k) (I.Bw.kept k)
theorem As.laid{o:HO}(I:As X pins σ H s)(k:∀b u,s.heap.get? b=some u->h'.get? b=some u)(d:s.heap.objs.size<=a)(c:B6 X.prog X.w (Av H a o) h' a o):As X pins σ (Av H a o) {s with heap:=h',toks:=t'}:=I.un (Un.laid k d (I.Bw.fresh d)) (I.Bw.laid k d c)
theorem As.write{x e:Addr}{o:HO}(I:As X pins σ H s)(d:iA (H x))(f:e=x\/H e=some (.own x))(k:∀b u,b≠e->s.heap.get? b=some u->h'.get? b=some u)(a:∃u,h'.get? e=some u)(c:B6 X.prog X.w (Av H x o) h' x o):As X pins σ (Av H x o) {s with heap:=h',toks:=t'}:=I.un (Un.write d f k a) (I.Bw.write d f k a c)
theorem As.weak{a:List (Option V)}(I:As X pins σ H s)(b:a.length=σ.length)(w:∀(i:Nat) v,a[i]?=some (some v)->σ[i]?=some (some v)):As X pins a H s:=⟨I.ok,I.os,I.bare,I.base,let⟨m,hn,hl'⟩:=I.loc;⟨m,hn,fun i x v e d c=>hl' i x v e (w i v d) c⟩,I.cell,I.free,I.CM,I.pin,I.Bw,b.trans I.len⟩
theorem As.WB{a:List (Addr×Obj)}(I:As X pins σ H s)(h:∀p∈a,s.heap.get? p.1=some p.2/\H p.1=none/\p.1≠X.env.locals/\p.1∉X.fs/\∀v,p.2.data≠ .cell v):As X a σ H s:=⟨I.ok,I.os,I.bare,I.base,I.loc,I.cell,I.free,I.CM,fun p b=>(zD.mp b).elim (fun z=>I.pin p (yB _ z)) (h p),I.Bw,I.len⟩
theorem IP(c:N.Nodup){j:Nat}(a:N[i]?=some x)(b:N[j]?=some x):i=j:=by obtain⟨g,e⟩:=z8.mp a;obtain⟨f,d⟩:=z8.mp b;exact(tm c).mp (e.trans d.symm)
theorem Ot{M:Model}{v:V}{Q:Unit->Shared->Prop}(I:As X pins σ H s)(hN:X.N.Nodup)(P:X.N[i]?=some x)(w:Loc X.env.scope x)(r:AW v u)(h:∀s',As X pins (σ.set i (some v)) H s'->(∃a,Heap.SameBut a s.heap s'.heap/\(a=X.env.locals\/X.env.cells.lookup x=some a))->Q () s')(hf:X.fn x=true\/X.env.scope.names.lookup x=some .local:=by first|exact .inl rfl|exact .inr rfl|assumption):wpAny M A (storeName X.env x u) Q E s:=by
 obtain⟨m,hn,hl⟩:=id I.loc;have R:(X.env.scope.kind== .class||(X.env.scope.kind== .module&&X.env.locals !=X.env.globals))=false:=by rw[I.ok.kind];rfl
 have F:i<σ.length:=by rw[I.len];exact(z8.mp P).1
 have K:=I.nR;have g:∀{a:Addr}{L:Heap},(∃o,s.heap.get? a=some o/\H a=none)->Heap.SameBut a s.heap L->FL X.prog X.w H L:=fun{a L} ha f b ob e=>by
  obtain⟨Y,Y,B⟩:=ha;refine(I.Bw b ob e).Im (fun c T t q=>(f.2 c ?_).trans q) (fun Y q=>q) fun Y Y q=>q;rintro rfl;rcases t with rfl|t;·rw[B]at e;cases e
  ·rw[B]at t;cases t
 rcases w with D|D
 ·refine wpAny_storeName_local D hn (fun L a1 f=>?_) R;obtain⟨oL,Y,Y,a0,Y⟩:=id hn;refine h _ ⟨I.ok,I.os,I.bare,⟨fun b o e n J w=>?_,fun b o e n J w=>?_,I.base.free,fun b o e w=>?_,I.base.tups,I.base.frzs,I.base.tbls⟩,⟨_,a1,fun j y Z l C e3=>?_⟩,fun y c e=>?_,I.free,I.CM,fun p hp=>?_,g ⟨oL,a0,I.free⟩ f,‹I.len›⟩ ⟨_,f,.inl rfl⟩;·exact(f.2 b (zV (zF (zA e) I.ok.above))).trans (I.base.keep b o e n J w)
  ·obtain⟨sl,l⟩:=I.base.slot b o e n J w;exact⟨sl,(f.2 b (zV (zF (zA e) I.ok.above))).trans l⟩
  ·obtain⟨o',l⟩:=I.base.there b o e w;exact⟨o',(f.2 b (zV (zF (zA e) I.ok.above))).trans l⟩
  ·by_cases hj:j=i;·subst hj;rw[P]at l;cases l;rw[wL F]at C;cases C;exact⟨u,r,.inl ⟨D,by simp⟩⟩
   ·rw[va (zN hj)]at C;obtain⟨u',r',q⟩:=hl j y Z l C e3;exists u',r';rcases q with⟨k,e⟩ |⟨k,c,e,z⟩;·refine .inl ⟨k,?_⟩;have:y≠x:=fun e=>hj (IP hN l (e▸P));simp[this,e]
    ·exact .inr ⟨k,c,e,z.sameBut f (K y c e)⟩
  ·obtain⟨T,z⟩:=I.cell y c e;exact⟨T,z.sameBut f (K y c e)⟩
  ·obtain⟨e,n,U,nf,d⟩:=I.pin p hp;exact⟨(f.2 p.1 U).trans e,n,U,nf,d⟩
 ·have G:X.fn x=true:=by
   rcases hf with z|z;·exact z
   ·rw[z]at D;cases D
  obtain⟨c,t⟩:=I.ok.has x (.inl D);obtain⟨T,z⟩:=I.cell x c t;refine wpAny_storeName_cell I.ok.kind D t z (fun L S f=>?_);obtain⟨oc,O,N⟩:=id z;refine h {s with heap:=L} ⟨I.ok,I.os,I.bare,⟨fun b o e n J w=>?_,fun b o e n J w=>?_,I.base.free,fun b o e w=>?_,I.base.tups,I.base.frzs,I.base.tbls⟩,⟨m,hn.sameBut f (zN (K x c t)),fun j y Z l C e3=>?_⟩,fun y W e=>?_,I.free,I.CM,fun p hp=>?_,g ⟨oc,O,I.CM x c t⟩ f,‹I.len›⟩ ⟨c,f,.inr t⟩;·exact(f.2 b (zV (zF (zA e) (I.ok.kD x c G t)))).trans (I.base.keep b o e n J w)
  ·obtain⟨sl,l⟩:=I.base.slot b o e n J w;exact⟨sl,(f.2 b (zV (zF (zA e) (I.ok.kD x c G t)))).trans l⟩
  ·obtain⟨o',l⟩:=I.base.there b o e w;exact⟨o',(f.2 b (zV (zF (zA e) (I.ok.kD x c G t)))).trans l⟩
  ·by_cases hj:j=i;·subst hj;rw[P]at l;cases l;rw[wL F]at C;cases C;exact⟨u,r,.inr ⟨.inl D,c,t,S⟩⟩
   ·rw[va (zN hj)]at C;obtain⟨u',r',q⟩:=hl j y Z l C e3;exists u',r';rcases q with q|⟨k,W,e,z'⟩;·exact .inl q
    ·refine .inr ⟨k,W,e,z'.sameBut f ?_⟩;rintro rfl;exact hj (IP hN l (I.ok.inj _ _ _ e t▸P))
  ·by_cases hcc:W=c;·subst hcc;exact⟨_,S⟩
   ·obtain⟨w2,z2⟩:=I.cell y W e;exact⟨w2,z2.sameBut f hcc⟩
  ·obtain⟨e,n,U,nf,d⟩:=I.pin p hp;refine⟨(f.2 p.1 ?_).trans e,n,U,nf,d⟩;intro q;rw[q,O]at e;have q':oc=p.2:=zt e;exact d T (by rw[<-q'];exact N)
theorem Il{M:Model}{v:V}{Q:Unit->Shared->Prop}(I:As X pins σ H s)(e:X.N.Nodup)(c:X.N[i]?=some x)(b:Loc X.env.scope x)(r:AW v u)(h:∀a,As X pins (σ.set i (some v)) H a->Q () a)(d:X.fn x=true\/X.env.scope.names.lookup x=some .local:=by first|exact .inl rfl|exact .inr rfl|assumption):wpAny M A (storeName X.env x u) Q E s:=Ot I e c b r (fun a f Y=>h a f) d
theorem As.iq{a:Shared}{ch:List Addr}(I:As X pins σ H s)(j:a.os=s.os)(u:Un (Nm X.stack) ch H H' s.heap a.heap)(d:FL X.prog X.w H' a.heap)(k:AllBare a.gens)(f:∀b∈ch,(b∈X.ex\/X.s_0.heap.objs.size<=b)/\b≠X.env.locals/\(∀x c,X.env.cells.lookup x=some c->c≠b)/\∀p∈X.pn++pins,p.1≠b):As X pins σ H' a:=by obtain⟨l,g,h,t',i⟩:=a;have e:i=s.os:=j;subst e;exact I.call (g':=g) (t':=t') (d':=h) u d k f
end
abbrev XK:=Value->Option Addr->Hp->Prop
abbrev St:=List (Option V)
variable{pins:List (Addr×Obj)}{X:Cx}{es:List Expr}{o:Expr}{apos:Pos}{ta:TE}
abbrev VK:=V->Hp->Prop
abbrev TE:=St->Hp->VK->Prop
abbrev TT:=St->Hp->(Bool->Hp->Prop)->Prop
abbrev TA:=St->Hp->(List V->Hp->Prop)->Prop
structure Ends where
 nx:St->Hp->Prop
 rt:VK
 bk:St->Hp->Prop:=fun _ _=>False
 ct:St->Hp->Prop:=fun _ _=>False
abbrev TS:=Ends->St->Hp->Prop
inductive EP(X:Cx)(pins:List (Addr×Obj))(σ:St)(Q:VK)(u:Value)(s':Shared):Prop|mk(v H':_):As X pins σ H' s'->AW v u->Q v H'->EP X pins σ Q u s'
def TP(X:Cx)(a:List (Addr×Obj))(σ:St)(Q:Bool->Hp->Prop)(b:Bool)(d:Shared):Prop:=∃c,As X a σ c d/\Q b c
inductive AP(X:Cx)(pins:List (Addr×Obj))(σ:St)(Q:List V->Hp->Prop)(us:List Value)(s':Shared):Prop|mk(vs H':_):As X pins σ H' s'->AF vs us->Q vs H'->AP X pins σ Q us s'
def SP(X:Cx)(b:List (Addr×Obj))(D:Ends)(f:Flow)(d:Shared):Prop:=match f with| .next=>∃a c,As X b a c d/\D.nx a c| .brk=>∃a c,As X b a c d/\D.bk a c| .cont=>∃a c,As X b a c d/\D.ct a c| .ret u=>∃v a c,As X b a c d/\AW v u/\D.rt v c
def PE(X:Cx)(e:Expr)(t:TE):Prop:=∀(a:List (Addr×Obj))(s:Shared)(σ:St)(H:Hp)(Q:VK),As X a σ H s->t σ H Q->wpX X (eval e X.env) (EP X a σ Q) X.xe s
def PT(X:Cx)(e:Expr)(t:TT):Prop:=∀(a:List (Addr×Obj))(s:Shared)(σ:St)(H:Hp)(Q:Bool->Hp->Prop),As X a σ H s->t σ H Q->wpX X (isTrue e X.env (eval e X.env)) (TP X a σ Q) X.xe s
def PW(X:Cx)(e:Expr)(t:TT):Prop:=∀(b:Sem Value)(a:List (Addr×Obj))(s:Shared)(σ:St)(H:Hp)(Q:Bool->Hp->Prop),As X a σ H s->t σ H Q->wpX X (isTrue e X.env b) (TP X a σ Q) X.xe s
theorem PW.pt{X:Cx}{t:TT}(h:PW X e t):PT X e t:=h _
def PA(X:Cx)(c:List Expr)(t:TA):Prop:=∀(b:Pos)(a:List (Addr×Obj))(s:Shared)(σ:St)(H:Hp)(Q:List V->Hp->Prop),As X a σ H s->t σ H Q->wpX X (spliced (backTo b (starEach c X.env))) (AP X a σ Q) X.xe s
def PS(X:Cx)(b:Stmt)(t:TS):Prop:=∀(a:List (Addr×Obj))(s:Shared)(σ:St)(H:Hp)(D:Ends),As X a σ H s->t D σ H->wpX X (exec b X.env) (SP X a D) X.xe s
def Ri(X:Cx)(b:List Stmt)(t:TS):Prop:=∀(a:List (Addr×Obj))(s:Shared)(σ:St)(H:Hp)(D:Ends),As X a σ H s->t D σ H->wpX X (execs b X.env) (SP X a D) X.xe s
theorem Bq{b:Type}{t:Sem b}{Q c:b->Shared->Prop}{M:Model}(h:wpAny M A t Q E s)(d:∀a s,Q a s->c a s):wpAny M A t c E s:=yG h d fun Y Y x=>x
section
inductive Bi(i:Nat)(σ:St)(H:Hp)(Q:VK):Prop|mk(v:_):σ[i]?=some (some v)->Q v H->Bi i σ H Q
def tC(v:V):TE:=fun Y H Q=>Q v H
theorem jA{f:Pos}(t:X.N[i]?=some x)(n:lg X.env.scope x)(g:(x==("__debug__":Str))=false:=by decide)(j:(x==("__classdict__":Str))=false:=by decide):PE X (.Name x f) (Bi i):=by
 intro d s σ H Q I h;obtain⟨v,e,h⟩:=h;obtain⟨m,o,q⟩:=I.loc;obtain⟨u,r,l⟩:=q i x v t e n;have fin:EP X d σ Q u s:=⟨v,H,I,r,h⟩;rcases l with⟨b,p⟩ |⟨b,c,k,a⟩;·exact wpAny_Name (qp I.ok.kind b o p fin) g
 ·rcases b with b|b;·exact wpAny_Name (wpAny_loadName_cell I.ok.kind b k a fin) g
  ·exact wpAny_Name (wpAny_loadName_free I.ok.kind b k a fin j) g
theorem Ae{i j a}:PE X (.Constant (.int i) j a) (tC (.int i)):=fun Y Y Y H Y I h=>wpAny_Constant_int ⟨.int i,H,I.tok _,⟨_,rfl⟩,h⟩
theorem K5{b j a}:PE X (.Constant (.bool b) j a) (tC (.bl b)):=fun Y Y Y H Y I h=>Constant_bool ⟨.bl b,H,I,rfl,h⟩
theorem MB{j a}:PE X (.Constant .none j a) (tC .Bz):=fun Y Y Y H Y I h=>Constant_none ⟨.Bz,H,I,rfl,h⟩
theorem Ai{x j a}:PE X (.Constant (.str x) j a) (tC (.str x)):=fun Y Y Y H Y I h=>Calls.Constant_str ⟨.str x,H,I.tok _,⟨_,rfl⟩,h⟩
def Gl(X:Cx)(x:Str):Prop:=X.env.kindOf x=some .globalImplicit
theorem DL{a:List (Addr×Obj)}{σ:St}{H:Hp}{b:Pos}(I:As X a σ H s)(d:Gl X x)(c:X.mg x=some u)(h:Q u s)(e:(x==("__debug__":Str))=false:=by decide):wpX X (eval (.Name x b) X.env) Q E s:=sU I.ok.kind d (Calls.loadGlobal_global (by rw[I.ok.glob];exact I.mod.glob.keeps I.bk) c h) e
theorem Gm{a:List (Addr×Obj)}{σ:St}{H:Hp}{b:Pos}(I:As X a σ H s)(f:Gl X x)(e:X.mg x=none)(c:bootBuiltins x=some u)(h:Q u s)(d:x≠"__name__":=by decide)(g:(x==("__debug__":Str))=false:=by decide):wpX X (eval (.Name x b) X.env) Q E s:=by obtain⟨k,j,i⟩:=I.mod.blt;exact sU I.ok.kind f (Calls.loadGlobal_builtin (by rw[I.ok.glob];exact I.mod.glob.keeps I.bk) e (by rw[I.ok.blt];exact j.keeps I.bk) ((i x d).trans c) h) g
theorem AB{v:V}{a:Pos}(c:Gl X x)(b:X.mg x=some u)(r:AW v u)(d:(x==("__debug__":Str))=false:=by decide):PE X (.Name x a) (tC v):=fun Y Y Y H Y I h=>DL I c b ⟨v,H,I,r,h⟩ d
variable{a b:Expr}{tb:TE}{pos:Pos}
def PC(X:Cx)(f:CmpOp)(a b:Expr)(t:TE):Prop:=∀(c:List (Addr×Obj))(s:Shared)(σ:St)(H:Hp)(Q:VK),As X c σ H s->t σ H Q->wpX X (eval a X.env) (fun v e=>wpX X (eval b X.env) (fun u d=>wpX X (compareOp f v u) (EP X c σ Q) X.xe d) X.xe e) X.xe s
inductive pY(Q:Bool->Hp->Prop)(x:V)(H1:Hp):Prop|mk(c:_):x= .bl c->Q c H1->pY Q x H1
def tB(t:TE):TT:=fun σ H Q=>t σ H (pY Q)
theorem az{f:CmpOp}{t:TE}(h:PC X f a b t)(g:behindInMarks f b=false:=by first|exact my _ ⋯ ⋯|rfl):PT X (.Compare a [f] [b] pos) (tB t):=by intro e s σ H Q I k;refine qb (Bq (h e s σ H _ I k) fun v r g=>Bq g fun u p l=>Bq l fun c o ⟨x,n,m,i,j⟩=>?_) g;obtain⟨d,rfl,q⟩:=j;cases i;exact yS ⟨n,m,q⟩
theorem BS{t:TE}(h:PE X e t)(i:∀a,isTrue e X.env a=(do
 let v<-a
 standAt e.pos
 holding [v] (truthy v)):=by intro Y;rfl):PT X e (tB t):=by intro b s σ H Q I g;refine isTrue_plain (Bq (h b s σ H _ I g) fun v l ⟨x,k,j,c,f⟩=>?_) (i _);obtain⟨d,rfl,q⟩:=f;cases c;exact yS ⟨k,j,q⟩
variable{tA tB':TT}{rest:List Expr}
def lG(t u:TT):TT:=fun σ H Q=>t σ H fun c a=>if c=true then u σ a Q else Q false a
def pU(t u:TT):TT:=fun σ H Q=>t σ H fun c a=>if c=true then Q true a else u σ a Q
def lD(t:TT):TT:=fun σ H Q=>t σ H fun c a=>Q (!c) a
theorem BK(d:PT X a tA):PW X (.BoolOp .And [a] pos) tA:=by intro f b s σ H Q I h;refine isTrue_and (Bq (d b s σ H Q I h) fun c g e=>?_);cases c with|true=>exact isTrue_and_nil e|false=>exact e
theorem ay(d:PT X a tA):PW X (.BoolOp .Or [a] pos) tA:=by intro f b s σ H Q I h;refine isTrue_or (Bq (d b s σ H Q I h) fun c g e=>?_);cases c with|false=>exact isTrue_or_nil e|true=>exact e
theorem Ck(l:PT X a tA)(k:PW X (.BoolOp .And (b::rest) pos) tB'):PW X (.BoolOp .And (a::b::rest) pos) (lG tA tB'):=by intro i d s σ H Q I h;refine isTrue_and (Bq (l d s σ H _ I h) fun c j ⟨g,f,e⟩=>?_);cases c with|true=>exact k i d j σ g Q f e|false=>exact⟨g,f,e⟩
theorem hI(l:PT X a tA)(k:PW X (.BoolOp .Or (b::rest) pos) tB'):PW X (.BoolOp .Or (a::b::rest) pos) (pU tA tB'):=by intro i d s σ H Q I h;refine isTrue_or (Bq (l d s σ H _ I h) fun c j ⟨g,f,e⟩=>?_);cases c with|true=>exact⟨g,f,e⟩ |false=>exact k i d j σ g Q f e
theorem FV(d:PT X a tA):PT X (.UnaryOp .Not a pos) (lD tA):=by intro b s σ H Q I h;exact isTrue_not (d b s σ H (fun c e=>Q (!c) e) I h)
inductive Zu(tb:TE)(σ:St)(Q:VK)(x:V)(H1:Hp):Prop|mk(c:_):x= .bl c->(if c=true then tb σ H1 Q else Q (.bl false) H1)->Zu tb σ Q x H1
def Zv(b a:TE):TE:=fun σ H Q=>b σ H (Zu a σ Q)
inductive gP(tb:TE)(σ:St)(Q:VK)(x:V)(H1:Hp):Prop|mk(c:_):x= .bl c->(if c=true then Q (.bl true) H1 else tb σ H1 Q)->gP tb σ Q x H1
def lC(b a:TE):TE:=fun σ H Q=>b σ H (gP a σ Q)
theorem ED{c}{t:TE}(h:PE X a t):PE X (.BoolOp c [a] pos) t:=fun b s σ H Q I d=>BoolOp_one (h b s σ H Q I d)
theorem MC(l:PE X a ta)(k:PE X (.BoolOp .And (b::rest) pos) tb):PE X (.BoolOp .And (a::b::rest) pos) (Zv ta tb):=by intro d s σ H Q I h;refine BoolOp_and (Bq (l d s σ H _ I h) fun v i ⟨x,g,f,j,e⟩=>?_);obtain⟨c,rfl,e⟩:=e;cases j;refine yS ?_;cases c with|true=>exact k d i σ g Q f e|false=>exact⟨.bl false,g,f,rfl,e⟩
theorem OS(l:PE X a ta)(k:PE X (.BoolOp .Or (b::rest) pos) tb):PE X (.BoolOp .Or (a::b::rest) pos) (lC ta tb):=by intro d s σ H Q I h;refine BoolOp_or (Bq (l d s σ H _ I h) fun v i ⟨x,g,f,j,e⟩=>?_);obtain⟨c,rfl,e⟩:=e;cases j;refine yS ?_;cases c with|false=>exact k d i σ g Q f e|true=>exact⟨.bl true,g,f,rfl,e⟩
def pV(t:TT)(d b:TE):TE:=fun σ H Q=>t σ H fun c a=>if c=true then d σ a Q else b σ a Q
theorem D4{c:Expr}(k:PT X c tA)(m:PE X a ta)(l:PE X b tb):PE X (.IfExp c a b pos) (pV tA ta tb):=by intro e s σ H Q I h;refine wpAny_IfExp (Bq (k e s σ H _ I h) fun d f ⟨j,i,g⟩=>?_);cases d with|true=>exact m e f σ j Q i g|false=>exact l e f σ j Q i g
end
def AI(K:Frag)(H:Hp)(a:Addr)(xs:List V):Prop:=Rd H a (.lst xs)\/∃(o:Obj)(b:Array Value)(n:Nat),K.lookup a=some o/\o.cls= .type "list"/\o.dict=none/\o.data= .seq b n/\b.size<=sizeLine/\AF xs b.toList
def Em(K:Frag)(H:Hp)(a:Addr)(xs:List V):Prop:=Rd H a (.tup xs)\/∃(o:Obj)(b:Array Value)(n:Nat),K.lookup a=some o/\o.cls= .type "tuple"/\o.data= .seq b n/\b.size<=sizeLine/\AF xs b.toList
def pF:Value->Option V| .none=>some .Bz| .bool b=>some (.bl b) | .int i _=>some (.int i) | .str x _=>some (.str x) | .bytes b _=>some (.Rh b) | .float b _=>some (.nQ b) | .ref a=>some (.ref a) | .type n=>some (.ty n) |_=>none
theorem AW.abs{x:V}(r:AW x u):pF u=some x:=by cases x with|Bz=>cases r;rfl|bl _=>cases r;rfl|int _=>obtain⟨t,rfl⟩:=r;rfl|str _=>obtain⟨t,rfl⟩:=r;rfl|Rh _=>obtain⟨t,rfl⟩:=r;rfl|nQ _=>obtain⟨t,rfl⟩:=r;rfl|ref _=>cases r;rfl|ty _=>cases r;rfl
theorem AW.inj{x y:V}(r:AW x u)(q:AW y u):x=y:=zt (r.abs.symm.trans q.abs)
theorem AF.inj:∀{xs a:List V}{us:List Value},AF xs us->AF a us->xs=a|_,_,_,.nil,.nil=>rfl|_,_,_,.cons r t,.cons b t'=>by rw[r.inj b,AF.inj t t']
section
variable{σ:St}{H:Hp}{xs ys:List V}
theorem AI.of{K:Frag}(h:H a=some (.lst xs)):AI K H a xs:= .inl (.inl h)
theorem Em.of{K:Frag}(h:H a=some (.tup xs)):Em K H a xs:= .inl (.inl h)
theorem As.list(I:As X pins σ H s)(h:AI X.K H a xs):∃b:List Value,AF xs b/\PlainL s.heap a b.toArray/\xs.length<=sizeLine:=by
 rcases h with h|⟨o,b,n,d,g,f,c,i,r⟩;·obtain⟨z,b,n,r,e⟩:=h.ok I.Bw;exact⟨b,r,⟨_,n,e,rfl,rfl,rfl⟩,z⟩
 ·exists b.toList,r,⟨o,n,I.Gp a o d,g,f,‹c›⟩;have e:=r.length;simp only[xi]at e;lia
theorem As.tuple(I:As X pins σ H s)(h:Em X.K H a xs):∃b:List Value,AF xs b/\IsTup s.heap a b.toArray/\xs.length<=sizeLine:=by
 rcases h with h|⟨o,b,n,d,f,c,g,r⟩;·obtain⟨z,b,r,p⟩:=h.ok I.Bw;exact⟨b,r,p,z⟩
 ·exists b.toList,r,⟨o,I.Gp a o d,f,n,‹c›⟩;have e:=r.length;simp only[xi]at e;lia
theorem As.SE(I:As X pins σ H s)(h:AI X.K H a xs)(j:AI X.K H a ys):xs=ys:=by obtain⟨c,r,⟨o,n,e,Y,Y,d⟩,Y⟩:=I.list h;obtain⟨b,i,⟨k,l,f,Y,Y,g⟩,Y⟩:=I.list j;rw[e]at f;cases f;rw[d]at g;injection g with d1 _;have:c=b:=‹zT Array.toList d1›;subst this;exact r.inj i
theorem As.Om(I:As X pins σ H s)(h:Em X.K H a xs)(j:Em X.K H a ys):xs=ys:=by obtain⟨c,r,⟨o,e,Y,n,d⟩,Y⟩:=I.tuple h;obtain⟨b,i,⟨k,f,Y,l,g⟩,Y⟩:=I.tuple j;rw[e]at f;cases f;rw[d]at g;injection g with d1 _;have:c=b:=‹zT Array.toList d1›;subst this;exact r.inj i
end
abbrev Cx.NF(X:Cx)(E:Value->Shared->Prop):Cx:={X with xe:=E}
abbrev Cx.nJ(X:Cx):Cx:=X.NF fun Y Y=>False
theorem Cx.Ok.NF{X:Cx}(a:X.Ok)(E:Value->Shared->Prop):(X.NF E).Ok:=⟨a.mod,a.kind,a.glob,a.blt,a.above,a.inj,a.has,a.kD,a.hd,a.frames,a.Zw,a.kY,a.bs,a.Zg,a.UX,a.Vy,a.HU,a.dE⟩
theorem Cx.Ok.FP{X:Cx}(a:(X.NF E).Ok):X.Ok:=⟨a.mod,a.kind,a.glob,a.blt,a.above,a.inj,a.has,a.kD,a.hd,a.frames,a.Zw,a.kY,a.bs,a.Zg,a.UX,a.Vy,a.HU,a.dE⟩
section
variable{σ:St}{H:Hp}
theorem As.NF(I:As X pins σ H s)(E:Value->Shared->Prop):As (X.NF E) pins σ H s:=⟨I.ok.NF E,I.os,I.bare,I.base,I.loc,I.cell,I.free,I.CM,I.pin,I.Bw,I.len⟩
theorem As.FP(I:As (X.NF E) pins σ H s):As X pins σ H s:=⟨I.ok.FP,I.os,I.bare,I.base,I.loc,I.cell,I.free,I.CM,I.pin,I.Bw,I.len⟩
theorem SP.FP{D:Ends}{f:Flow}{c:Shared}(h:SP (X.NF E) pins D f c):SP X pins D f c:=by cases f with|next=>obtain⟨a,b,I,q⟩:=h;exact⟨a,b,I.FP,q⟩ |brk=>obtain⟨a,b,I,q⟩:=h;exact⟨a,b,I.FP,q⟩ |cont=>obtain⟨a,b,I,q⟩:=h;exact⟨a,b,I.FP,q⟩ |ret u=>obtain⟨v,a,b,I,r,q⟩:=h;exact⟨v,a,b,I.FP,r,q⟩
theorem Ri.nJ{b:List Stmt}{t:TS}(h:Ri X.nJ b t):Ri X b t:=fun a s σ H D I c=>yG (h a s σ H D (I.NF _) c) (fun Y Y q=>q.FP) fun Y Y z=>False.elim z
end
section
variable{st:Stmt}{rest:List Stmt}{t u:TS}{te:TE}{pos:Pos}
def VU:TS:=fun D σ H=>D.nx σ H
def LR(t u:TS):TS:=fun D σ H=>t {D with nx:=u D} σ H
theorem Au:Ri X [] VU:=fun Y Y σ H Y I h=>vn ⟨σ,H,I,h⟩
theorem mv(e:PS X st t)(d:Ri X rest u):Ri X (st::rest) (LR t u):=by intro a s σ H D I h;refine wpAny_execs_cons (Bq (e a s σ H {D with nx:=u D} I h) fun f c q=>?_);cases f with|next=>obtain⟨b,i,g,q⟩:=q;exact d a c b i D g q|ret v=>exact q|brk=>exact q|cont=>exact q
theorem Ag(b:PS X st t):Ri X [st] t:=by intro a s σ H D I h;refine wpAny_execs_cons (Bq (b a s σ H D I h) fun f c q=>?_);cases f with|next=>exact vn q|ret v=>exact q|brk=>exact q|cont=>exact q
def iX:TS:=fun D σ H=>D.bk σ H
theorem Se:PS X (.Break pos) iX:=fun Y Y σ H Y I h=>wpAny_Break ⟨σ,H,I,h⟩
theorem As.quiet{a:List (Addr×Obj)}{σ:St}{H:Hp}(I:As X a σ H s):interactive X.env=false:=by simp[interactive,I.ok.kind]
def Rx(te:TE):TS:=fun D σ H=>te σ H fun Y a=>D.nx σ a
theorem A2(d:PE X e te)(c:swapsWith e none pos.line X.env=pure false:=by rfl):PS X (.Expr e pos) (Rx te):=by intro a s σ H D I h;exact wpAny_Expr_any (Bq (d a s σ H _ I h) fun v i ⟨x,g,f,j,b⟩=>⟨σ,g,f,b⟩) I.quiet c
def PR(te:TE):TS:=fun D σ H=>te σ H D.rt
theorem Aj(d:PE X e te):PS X (.Return (some e) pos) (PR te):=by intro a s σ H D I h;exact wpAny_Return_some (Bq (d a s σ H _ I h) fun v i ⟨x,g,f,b,c⟩=>⟨x,σ,g,f,b,c⟩)
def Zq(c:TT)(t u:TS):TS:=fun D σ H=>c σ H fun b a=>if b=true then t D σ a else u D σ a
theorem AK{c:Expr}{a b:List Stmt}{f:TT}(l:PT X c f)(n:Ri X a t)(m:Ri X b u):PS X (.If c a b pos) (Zq f t u):=by intro e s σ H D I h;refine wpAny_If (Bq (l e s σ H _ I h) fun d g ⟨k,j,i⟩=>?_);cases d with|true=>exact n e g σ k D j i|false=>exact m e g σ k D j i
def iS:TS:=fun Y Y Y=>False
theorem aB:PS X st iS:=fun Y Y Y Y Y Y h=>h.elim
end
abbrev TG:=V->St->Hp->(St->Hp->Prop)->Prop
abbrev lp:=List V->St->Hp->(St->Hp->Prop)->Prop
def PG(X:Cx)(a:Expr)(t:TG):Prop:=∀(b:List (Addr×Obj))(s:Shared)(σ:St)(H:Hp)(v:V)(u:Value)(Q:St->Hp->Prop),As X b σ H s->AW v u->t v σ H Q->wpX X (assign a X.env u) (fun Y e=>∃c d,As X b c d e/\Q c d) X.xe s
def nY(X:Cx)(e:List Expr)(t:lp):Prop:=∀(a:List (Addr×Obj))(s:Shared)(σ:St)(H:Hp)(c:List V)(us:List Value)(Q:St->Hp->Prop),As X a σ H s->AF c us->t c σ H Q->wpX X (assignInOrder ((assignEach e X.env).map (·.2)) us) (fun Y f=>∃b d,As X a b d f/\Q b d) X.xe s
abbrev dj:=V->V->V->Hp->(Hp->Prop)->Prop
def kQ(X:Cx)(t:dj):Prop:=∀(a:List (Addr×Obj))(s:Shared)(σ:St)(H:Hp)(o i v:V)(b c u:Value)(Q:Hp->Prop),As X a σ H s->AW o b->AW i c->AW v u->t o i v H Q->wpX X (setItem b c u) (fun Y e=>∃d,As X a σ d e/\Q d) X.xe s
abbrev lh:=V->V->Hp->VK->Prop
def nX(X:Cx)(b:Operator)(t:lh):Prop:=∀(a:List (Addr×Obj))(s:Shared)(σ:St)(H:Hp)(x y:V)(v u:Value)(Q:VK),As X a σ H s->AW x v->AW y u->t x y H Q->wpX X (inplaceOp b v u) (EP X a σ Q) X.xe s
section
variable{pos:Pos}
def E6(i:Nat):TG:=fun v σ H Q=>Q (σ.set i (some v)) H
theorem Aw(e:X.N.Nodup)(c:X.N[i]?=some x:=by rfl)(b:Loc X.env.scope x:=by first|exact .inl rfl|exact .inr rfl)(d:X.fn x=true\/X.env.scope.names.lookup x=some .local:=by first|exact .inl rfl|exact .inr rfl|assumption):PG X (.Name x pos) (E6 i):=by intro a s σ H v u Q I r h;exact wpAny_assign_Name (Il I e c b r (fun g f=>⟨_,H,f,h⟩) d)
def gd:lp:=fun a σ H Q=>a=[]/\Q σ H
inductive KL(t:TG)(u:lp)(vs:List V)(σ:St)(H:Hp)(Q:St->Hp->Prop):Prop|mk(v r:_):vs=v::r->(t v σ H fun σ' H'=>u r σ' H' Q)->KL t u vs σ H Q
theorem Cp:nY X [] gd:=by intro a s σ H b us Q I r h;obtain⟨e,h⟩:=h;subst e;cases r;exact assignInOrder_nil ⟨σ,H,I,h⟩
theorem AR{b:List Expr}{t:TG}{u:lp}(k:PG X e t)(j:nY X b u)(i:(assignEach (e::b) X.env).map (·.2)=assign e X.env::(assignEach b X.env).map (·.2):=by rfl):nY X (e::b) (KL t u):=by intro a s σ H o us Q I r h;obtain⟨v,p,l,h⟩:=h;subst l;cases r with|cons r f=>rw[i];refine assignInOrder_cons (Bq (k a s σ H _ _ _ I r h) fun Y d ⟨c,n,m,g⟩=>?_);exact j a d c n _ _ Q m f g
inductive cw(K:Frag)(n:Nat)(t:lp)(v:V)(σ:St)(H:Hp)(Q:St->Hp->Prop):Prop|mk(a xs:_):v= .ref a->Em K H a xs->xs.length=n->t xs σ H Q->cw K n t v σ H Q
theorem Di{d:List Expr}{k:Nat}{t:lp}{n:Nat}(x:X.calm=true)(h:nY X d t)(q:(assignEach d X.env).length=n:=by rfl)(g:(assignEach d X.env).findIdx? (·.1)=none:=by rfl):PG X (.Tuple d k pos) (cw X.K n t):=by intro c s σ H v u Q I r f;obtain⟨a,xs,z,p,w,f⟩:=f;subst z;cases r;obtain⟨j,i,m,B⟩:=I.tuple p;refine assign_Tuple_tuple (I.ok.hd x) m (by simp[q,<-w,i.length]) g fun y l=>?_;have A:As X c σ H {s with heap:=y}:=I.kept (t':=s.toks) fun b o e=>l b o (zV (zA e)) e;exact h c _ σ H xs _ Q A ‹i› f
def pq(a b:TE)(t:dj):TG:=fun v σ H Q=>a σ H fun o e=>b σ e fun i d=>t o i v d fun c=>Q σ c
theorem HN{o i:Expr}{d e:TE}{t:dj}(q:PE X o d)(w:PE X i e)(p:kQ X t)(z:∀v,assign (.Subscript o i pos) X.env v=(do
 let b<-holding [v] (eval o X.env)
 let c<-holding [v,b] (eval i X.env)
 standAt pos
 holding [v,b,c] (setItem b c v)
 release [v,b,c] []):=by intro Y;rfl):PG X (.Subscript o i pos) (pq d e t):=by intro a s σ H v u Q I r h;rw[z];refine za (yR (Bq (q a s σ H _ I h) fun b g ⟨x,F,C,k,n⟩=>?_));refine za (yR (Bq (w a g σ F _ C n) fun c f ⟨y,E,B,j,m⟩=>?_));refine za (xb (za (yR (Bq (p a f σ E x y v b c u _ B k j r m) fun Y G ⟨D,A,l⟩=>?_))));exact wpAny_release ⟨σ,D,A,l⟩
def Ry(te:TE)(g:TG):TS:=fun D σ H=>te σ H fun x a=>g x σ a D.nx
theorem HL{te:TE}{g:TG}(k:PE X e te)(j:PG X tg g)(i:swapsWithSole [tg] e pos.line X.env=pure false:=by rfl)(f:swappedStores [tg] e X.env=pure none:=by rfl)(l:(assignEach [tg] X.env).map (·.2)=[assign tg X.env]:=by rfl):PS X (.Assign [tg] e pos) (Ry te g):=by intro a s σ H D I h;refine wpAny_Assign_stores (Bq (k a s σ H _ I h) fun v b ⟨x,n,m,c,d⟩=>?_) i f;rw[l];exact Bq (j a b σ n x v _ m c d) fun Y o q=>q
theorem An{te:TE}{a:Pos}(m:X.N.Nodup)(l:PE X e te)(j:X.N[i]?=some x:=by rfl)(f:Loc X.env.scope x:=by first|exact .inl rfl|exact .inr rfl)(g:swapsWith e (some (.Name x a)) pos.line X.env=pure false:=by rfl)(k:X.fn x=true\/X.env.scope.names.lookup x=some .local:=by first|exact .inl rfl|exact .inr rfl|assumption):PS X (.Assign [.Name x a] e pos) (Ry te (E6 i)):=by intro b s σ H D I h;refine wpAny_Assign_Name (Bq (l b s σ H _ I h) fun v r ⟨y,p,o,c,d⟩=>?_) g;exact Il o m j f c (fun q n=>⟨_,p,n,d⟩) k
inductive lF(i:Nat)(te:TE)(ti:lh)(D:Ends)(σ:St)(H:Hp):Prop|mk(x:_):σ[i]?=some (some x)->(te σ H fun y H1=>ti x y H1 fun z H2=>D.nx (σ.set i (some z)) H2)->lF i te ti D σ H
theorem Qk{te:TE}{o:Operator}{q:lh}{j:Pos}(Q:X.N.Nodup)(O:PE X e te)(J:nX X o q)(t:X.N[i]?=some x:=by rfl)(p:Loc X.env.scope x:=by first|exact .inl rfl|exact .inr rfl)(N:X.fn x=true\/X.env.scope.names.lookup x=some .local:=by first|exact .inl rfl|exact .inr rfl|assumption):PS X (.AugAssign (.Name x j) o e pos) (lF i te q):=by
 intro a s σ H D I h;obtain⟨v,R,h⟩:=h;obtain⟨m,K,M⟩:=I.loc;have n:lg X.env.scope x:=by rcases p with k|k;exact .inl k;exact .inr (.inl k)
 obtain⟨u,r,l⟩:=M i x v t R n;refine wpAny_AugAssign_Name ?_;have A:wpX X (eval e X.env) (fun w g=>wpX X (inplaceOp o u w) (fun r f=>wpX X (storeName X.env x r) (fun Y=>SP X a D .next) X.xe f) X.xe g) X.xe s:=by refine Bq (O a s σ H _ I h) fun w B ⟨y,W,U,E,G⟩=>?_;refine Bq (J a B σ W v y u w _ U r E G) fun z s2 ⟨Z,V,T,C,F⟩=>?_;exact Il T Q t p C (fun s3 S=>⟨_,V,S,F⟩) N
 rcases l with⟨b,L⟩ |⟨b,c,P,d⟩;·exact qp I.ok.kind b K L A
 ·rcases b with b|b;·exact wpAny_loadName_cell I.ok.kind b P d A
  ·rcases p with k|k;·have:X.env.scope.names.lookup x=some .free:=b;rw[k]at this;cases this
   ·have:X.env.scope.names.lookup x=some .free:=b;rw[k]at this;cases this
def lE(d e te:TE)(b:V->V->Hp->VK->Prop)(c:lh)(a:dj):TS:=fun D σ H=>d σ H fun o l=>e σ l fun i k=>b o i k fun x j=>te σ j fun y h=>c x y h fun z g=>a o i z g fun f=>D.nx σ f
def m_(X:Cx)(t:V->V->Hp->VK->Prop):Prop:=∀(a:List (Addr×Obj))(s:Shared)(σ:St)(H:Hp)(o i:V)(b c:Value)(Q:VK),As X a σ H s->AW o b->AW i c->t o i H Q->wpX X (getItem b c) (EP X a σ Q) X.xe s
theorem fb{o i:Expr}{p q te:TE}{d:V->V->Hp->VK->Prop}{k:lh}{c:dj}{u:Operator}{j:Pos}(S:PE X o p)(T:PE X i q)(U:m_ X d)(W:PE X e te)(R:nX X u k)(Q:kQ X c)(Z:∀f g b,augStore i f g b=(do
 holding [b,f,g] (setItem f g b)
 release [b,f,g] []
 pure .next):=by intros;rfl):PS X (.AugAssign (.Subscript o i j) u e pos) (lE p q te d k c):=by intro a s σ H D I h;refine wpAny_AugAssign_SubscriptAny (Bq (S a s σ H _ I h) fun f E ⟨n,H1,I1,t,P⟩=>?_) Z;refine Bq (T a E σ H1 _ I1 P) fun g C ⟨m,H2,I2,r,O⟩=>?_;refine Bq (U a C σ H2 n m f g _ I2 t r O) fun l B ⟨y,H3,I3,J,N⟩=>?_;refine Bq (W a B σ H3 _ I3 N) fun v A ⟨x,H4,I4,G,M⟩=>?_;refine Bq (R a A σ H4 y x l v _ I4 J G M) fun b z ⟨w,H5,I5,F,L⟩=>?_;exact Bq (Q a z σ H5 n m w f g b _ I5 t r F L) fun Y s6 ⟨H6,I6,K⟩=>⟨σ,H6,I6,K⟩
def qx(f:Int->Int->Int):lh:=fun x y H Q=>∃i j,x= .int i/\y= .int j/\Q (.int (f i j)) H
theorem Vj:nX X .Add (qx fun i j=>i+j):=by intro a s σ H x y v u Q I c b h;obtain⟨i,j,e,d,q⟩:=h;subst e;subst d;obtain⟨t,rfl⟩:=c;obtain⟨t',rfl⟩:=b;exact iadd_int ⟨.int _,H,I.tok _,⟨_,rfl⟩,q⟩
theorem jQ:nX X .Sub (qx fun i j=>i-j):=by intro a s σ H x y v u Q I c b h;obtain⟨i,j,e,d,q⟩:=h;subst e;subst d;obtain⟨t,rfl⟩:=c;obtain⟨t',rfl⟩:=b;exact isub_int ⟨.int _,H,I.tok _,⟨_,rfl⟩,q⟩
def iQ(c:TT)(g:TS):TS:=fun D σ H=>∃W:Nat->St->Hp->Prop,(∃m,W m σ H)/\∀m σ H,W m σ H->c σ H fun b e=>if b=true then∃N:St->Hp->Prop,(∀a f,N a f->∃d,d<m/\W d a f)/\g {D with nx:=N,ct:=N,bk:=D.nx} σ e else D.nx σ e
theorem CU{c:Expr}{g:List Stmt}{t:TT}{u:TS}(w:PassesOwn (model X.prog X.w) X.A X.env X.xe)(L:PT X c t)(M:Ri X g u):PS X (.While c g [] pos) (iQ t u):=by
 intro d s σ H D I h;obtain⟨W,⟨K,E⟩,turn⟩:=h;refine wpAny_While (codeAny_whileLoop (fun n J=>∃i B,As X d i B J/\W n i B) ?_ K ⟨σ,H,I,E⟩);rintro n G ⟨e,A,O,C⟩;refine x_ w (Bq (L d G e A _ O (turn n e A C)) fun b F ⟨z,y,l⟩=>?_);cases b with
 |true=>obtain⟨N,x,l⟩:=l;rw[zc rfl];refine x_ w (Bq (M d F e z _ y l) fun f P k=>?_);cases f with|next=>obtain⟨a,j,r,o⟩:=k;obtain⟨p,q,m⟩:=x a j o;exact⟨p,q,a,j,r,m⟩ |cont=>obtain⟨a,j,r,o⟩:=k;obtain⟨p,q,m⟩:=x a j o;exact⟨p,q,a,j,r,m⟩ |brk=>exact k|ret v=>exact k
 |false=>rw[zb zQ];exact vn ⟨e,z,y,l⟩
end
structure It where
 go:Nat->Hp->Prop
 Uj:Nat->Hp->V->Hp->Prop
 stop:Nat->Hp->Prop
def Cf(X:Cx)(a:List (Addr×Obj))(H:Hp)(b:Addr):Prop:=H b=none/\b≠X.env.locals/\b∉X.fs/\(b∈X.ex\/X.s_0.heap.objs.size<=b)/\(∀x c,X.env.cells.lookup x=some c->c≠b)/\∀p∈X.pn++a,p.1≠b
theorem As.JZ{X:Cx}{a:List (Addr×Obj)}{σ:St}{H f:Hp}(I:As X a σ H s)(d:s.heap.objs.size<=b)(h:f b=none):Cf X a f b:=by
 refine⟨h,xl (zF I.lt d),I.oV d,.inr (z_ I.sz d),fun x c e z=>?_,fun p g z=>?_⟩;·obtain⟨v,q⟩:=I.cell x c e;exact absurd (zF q.lt (by rw[z];exact d)) (yV _)
 ·exact absurd (zF (zA (I.pin p g).1) (by rw[z];exact d)) (yV _)
structure Turn(P:Program)(w:World)(K:Frag)(tg:Expr)(J:It)(fp:List Addr)(it:Addr)(tn:Nat->Heap->Prop):Prop where
 mem:it∈fp
 obj:∀i h,tn i h->∀b∈fp,∃o,h.get? b=some o/\∀v,o.data≠ .cell v
 keep:∀i h h',tn i h->(∀b∈fp,∀o,h.get? b=some o->h'.get? b=some o)->tn i h'
 item:∀(X:Cx),X.prog=P->X.w=w->X.K=K->X.calm=true->∀(i:Nat)(pins:List (Addr×Obj))(s:Shared)(σ:St)(H:Hp)(E:Value->Shared->Prop),As X pins σ H s->(∀b∈fp,Cf X pins H b)->tn i s.heap->J.go i H->wpAny (model P w) X.A (pyNext (.ref it)) (fun r s1=>∃u,r=some u/\wpAny (model P w) X.A (letOwnedTupleGo tg (.ref it) u) (fun _ s2=>∃x H',As X pins σ H' s2/\AW x u/\J.Uj i H x H'/\tn (i+1) s2.heap/\∀b∈fp,H' b=none) E s1) E s
 done:∀(X:Cx),X.prog=P->X.w=w->X.K=K->X.calm=true->∀(i:Nat)(pins:List (Addr×Obj))(s:Shared)(σ:St)(H:Hp)(E:Value->Shared->Prop),As X pins σ H s->(∀b∈fp,Cf X pins H b)->tn i s.heap->J.stop i H->wpAny (model P w) X.A (pyNext (.ref it)) (fun r s1=>r=none/\As X pins σ H s1) E s
 self:∀(A:Around)(i:Nat)(s:Shared)(Q:Value->Shared->Prop)(E:Value->Shared->Prop),tn i s.heap->Q (.ref it) s->wpAny (model P w) A (pyIter (.ref it)) Q E s
abbrev TI:=St->Hp->(It->Hp->Prop)->Prop
def pK(X:Cx)(a:List (Addr×Obj))(σ:St)(tg:Expr)(R:It->Hp->Prop)(c:Value)(f:Shared):Prop:=∃(g:Addr)(h:List Addr)(e:Nat->Heap->Prop)(J:It)(d:Hp),c= .ref g/\As X a σ d f/\Turn X.prog X.w X.K tg J h g e/\e 0 f.heap/\(∀b∈h,Cf X a d b)/\R J d
def PI(X:Cx)(tg b:Expr)(c:TI):Prop:=∀(a:List (Addr×Obj))(s:Shared)(σ:St)(H:Hp)(R:It->Hp->Prop),As X a σ H s->c σ H R->wpX X (eval b X.env) (fun v d=>wpX X (pyIter v) (pK X a σ tg R) X.xe d) X.xe s
theorem Tn{M:Model}{c:Addr}{o:Obj}{n:String}{b:Array Value}{Q:Unit->Shared->Prop}(d:s.heap.get? c=some o)(g:o.cls= .type n)(f:o.data= .fields b)(e:["enumerate","zip","dict_itemiterator","dict_reverseitemiterator","odict_iterator","itertools.zip_longest","itertools.pairwise"].contains n=false)(a:Q () s):wpAny M A (letOwnedTupleGo tg (.ref c) u) Q E s:=by unfold letOwnedTupleGo;cases tg<;>first|exact zr a|(cases u<;>first|exact zr a|(refine za (wpAny_load d ?_);rw[g,f];show wpAny M A (if(["enumerate","zip","dict_itemiterator","dict_reverseitemiterator","odict_iterator","itertools.zip_longest","itertools.pairwise"].contains n&&b[0]?==some (rawInt _))=true then _ else _) Q E s;rw[zb (by intro h;rw[e,xM]at h;cases h)];exact zr a))
def iD(K:Frag)(a:Addr):It:=⟨fun i H=>∃xs x,AI K H a xs/\xs[i]?=some x,fun i H x b=>b=H/\∀xs,AI K H a xs->xs[i]?=some x,fun i H=>∃xs,AI K H a xs/\xs.length<=i⟩
def iB(K:Frag)(a:Addr):It:=⟨fun i H=>∃xs x,Em K H a xs/\xs[i]?=some x,fun i H x b=>b=H/\∀xs,Em K H a xs->xs[i]?=some x,fun i H=>∃xs,Em K H a xs/\xs.length<=i⟩
def gG(a:Int)(n:Nat):It:=⟨fun i Y=>i<n,fun i H x b=>b=H/\x= .int (a+i),fun i Y=>n<=i⟩
theorem Xv{P:Program}{w:World}{K:Frag}(a j:Addr):Turn P w K tg (iD K a) [j] j (fun i h=>h.IsListIter j a i)where
 mem:=by simp
 obj:=fun i h f b l=>by have e:b=j:=‹l›;subst e;obtain⟨o,e,c,d⟩:=f;exact⟨o,e,fun v z=>by rw[d]at z;cases z⟩
 keep:=fun i h r f k=>f.at fun o e=>k j (by simp) o e
 item:=by intro X D B F O i g s σ H E I q f C;subst D B F;obtain⟨xs,x,n,A⟩:=C;obtain⟨y,t,p,S⟩:=I.list n;obtain⟨u,U,R⟩:=t.get A;obtain⟨N,M,V,L,J,G⟩:=q j (by simp);refine wpAny_pyNext_list_item f p.isList (x:=u) ‹U› fun r m Q=>?_;have Z:As X g σ H {s with heap:=r}:=I.turned (t':=s.toks) (fun b o l e=>(Q.2 b l).trans e) N M L J G;obtain⟨o,e,c,d⟩:=id m;exact⟨u,rfl,Tn (s:={s with heap:=r}) e c d ⋯ ⟨x,H,Z,R,⟨rfl,fun ys T=>by rw[I.SE T n];exact A⟩,m,fun b l=>(q b l).1⟩⟩
 done:=by intro X D B F O i g s σ H E I q f C;subst D B F;obtain⟨xs,n,A⟩:=C;obtain⟨y,t,p,S⟩:=I.list n;obtain⟨N,M,V,L,J,G⟩:=q j (by simp);have hl:=t.length;exact wpAny_pyNext_list_end (I.ok.hd O) f p.isList (by simp;lia) fun r W=>⟨rfl,I.turned (t':=s.toks) (fun b o l e=>W b o l e) N M L J G⟩
 self:=fun Y Y Y Y Y f h=>wpAny_pyIter_listiter f h
theorem Ut{P:Program}{w:World}{K:Frag}(a l:Addr):Turn P w K tg (iB K a) [l] l (fun i h=>h.IsTupleIter l a i)where
 mem:=by simp
 obj:=fun i h f b m=>by have e:b=l:=‹m›;subst e;obtain⟨o,e,c,d⟩:=f;exact⟨o,e,fun v z=>by rw[d]at z;cases z⟩
 keep:=fun i h t f k=>f.at fun o e=>k l (by simp) o e
 item:=by intro X D B F O i g s σ H E I r f C;subst D B F;obtain⟨xs,x,q,A⟩:=C;obtain⟨j,y,p,S⟩:=I.tuple q;obtain⟨u,U,R⟩:=y.get A;obtain⟨N,M,V,L,J,G⟩:=r l (by simp);refine wpAny_pyNext_tuple_item f (show s.heap.IsTuple a j.toArray from p) (x:=u) ‹U› fun t n Q=>?_;have Z:As X g σ H {s with heap:=t}:=I.turned (t':=s.toks) (fun b o m e=>(Q.2 b m).trans e) N M L J G;obtain⟨o,e,c,d⟩:=id n;exact⟨u,rfl,Tn (s:={s with heap:=t}) e c d ⋯ ⟨x,H,Z,R,⟨rfl,fun ys T=>by rw[I.Om T q];exact A⟩,n,fun b m=>(r b m).1⟩⟩
 done:=by intro X D B F O i g s σ H E I r f C;subst D B F;obtain⟨xs,q,A⟩:=C;obtain⟨j,y,p,S⟩:=I.tuple q;obtain⟨N,M,V,L,J,G⟩:=r l (by simp);have hl:=y.length;exact wpAny_pyNext_tuple_end (I.ok.hd O) f (show s.heap.IsTuple a j.toArray from p) (by simp;lia) fun t W=>⟨rfl,I.turned (t':=s.toks) (fun b o m e=>W b o m e) N M L J G⟩
 self:=fun Y Y Y Y Y f h=>wpAny_pyIter_tupleiter f h
theorem Uu{P:Program}{w:World}{K:Frag}(d:Addr)(j:Int)(n:Nat):Turn P w K tg (gG j n) [d] d (fun i h=>IsRangeIter h d (j+(i:Nat)*1) ((n:Int)-(i:Nat)) 1)where
 mem:=by simp
 obj:=fun i h a b f=>by have e:b=d:=‹f›;subst e;exact⟨_,a,fun v z=>by have G:Data.fields _=Data.cell v:=z;cases G⟩
 keep:=fun i h m a k=>k d (by simp) _ a
 item:=by intro X u p x r i c s σ H E I l a q;subst u p x;obtain⟨D,C,M,B,A,y⟩:=l d (by simp);have W:=Walks.range (prog:=X.prog) (w:=X.w) (I.ok.hd r) d j 1 n;refine W.item i s _ _ q a fun v m F L g J=>?_;obtain⟨t,rfl⟩:=L;have O:As X c σ H {s with heap:=m,toks:=F}:=I.turned (fun b o f e=>J b o ‹f› e) D C B A y;refine⟨_,rfl,Tn (s:={s with heap:=m,toks:=F}) (n:="range_iterator") g rfl rfl ⋯ ⟨.int (j+i),H,O,⟨t,?_⟩,⟨rfl,rfl⟩,g,fun b f=>(l b f).1⟩⟩;rw[Int.mul_one]
 done:=by intro X u p x r i c s σ H E I l a q;subst u p x;obtain⟨D,C,M,B,A,y⟩:=l d (by simp);exact rS (I.ok.hd r) a (by have:n<=i:=q;lia) fun m N=>⟨rfl,I.turned (t':=s.toks) (fun b o f e=>N b o f e) D C B A y⟩
 self:=fun Y Y Y Y Y a h=>rV a h
inductive bX(K:Frag)(R:It->Hp->Prop)(x:V)(H1:Hp):Prop|mk(a:_):x= .ref a->(∃xs,AI K H1 a xs)->R (iD K a) H1->bX K R x H1
def mH(K:Frag)(a:TE):TI:=fun σ H R=>a σ H (bX K R)
inductive ia(K:Frag)(R:It->Hp->Prop)(x:V)(H1:Hp):Prop|mk(a:_):x= .ref a->(∃xs,Em K H1 a xs)->R (iB K a) H1->ia K R x H1
def ph(K:Frag)(a:TE):TI:=fun σ H R=>a σ H (ia K R)
theorem BL{l:Expr}{g:TE}(n:PE X l g):PI X tg l (mH X.K g):=by intro c s σ H R I h;refine Bq (n c s σ H _ I h) fun v d ⟨x,t,f,i,j⟩=>?_;obtain⟨a,e,⟨xs,m⟩,q⟩:=j;subst e;cases i;obtain⟨k,u,p,w⟩:=f.list m;refine tO p.isList ?_;refine⟨d.heap.objs.size,[d.heap.objs.size],_,_,t,rfl,f.kept (t':=d.toks) fun b o e=>zi _ e,Xv a _,⟨_,zM _ rfl,rfl,rfl⟩,fun b r=>?_,q⟩;have e:b=d.heap.objs.size:=‹r›;subst e;exact f.JZ (ze _) (f.Bw.fresh (ze _))
theorem Ql{l:Expr}{i:TE}(n:PE X l i):PI X tg l (ph X.K i):=by intro d s σ H R I h;refine Bq (n d s σ H _ I h) fun v c ⟨x,t,f,j,k⟩=>?_;obtain⟨a,e,⟨xs,m⟩,q⟩:=k;subst e;cases j;obtain⟨g,u,p,w⟩:=f.tuple m;refine vR (show c.heap.IsTuple a g.toArray from p) ?_;refine⟨c.heap.objs.size,[c.heap.objs.size],_,_,t,rfl,f.kept (t':=c.toks) fun b o e=>zi _ e,Ut a _,⟨_,zM _ rfl,rfl,rfl⟩,fun b r=>?_,q⟩;have e:b=c.heap.objs.size:=‹r›;subst e;exact f.JZ (ze _) (f.Bw.fresh (ze _))
theorem au{d:List (Addr×Obj)}{σ:St}{H:Hp}{R:It->Hp->Prop}{a c:Int}{t u v:Tok}{f:Nat}(I:As X d σ H s)(l: -(2^62)<=a)(k:a<2^62)(j: -(2^62)<=c)(i:c<2^62)(q:R (gG a (c-a).toNat) H):wpX X (pyIter (.ref s.heap.objs.size)) (pK X d σ tg R) E {s with heap:=s.heap.push {cls:= .type "range",data:= .fields #[.int a t,.int c u,.int 1 v]},toks:=f}:=by
 refine wpAny_pyIter_range (IsRange.new ..) (small_one l k j i) ?_;have g:As X d σ H {s with heap:=s.heap.push {cls:= .type "range",data:= .fields #[.int a t,.int c u,.int 1 v]},toks:=f}:=I.kept fun b o e=>zi _ e;refine⟨(s.heap.push {cls:= .type "range",data:= .fields #[.int a t,.int c u,.int 1 v]}).objs.size,[(s.heap.push {cls:= .type "range",data:= .fields #[.int a t,.int c u,.int 1 v]}).objs.size],_,_,H,rfl,g.kept (t':=f) fun b o e=>zi _ e,Uu _ a (c-a).toNat,?_,fun b h=>?_,q⟩
 ·have n:a+((0:Nat):Int)*1=a:=by simp
  have m:(((c-a).toNat:Nat):Int)-((0:Nat):Int)=Builtin.Range.rangeSize a c 1:=by rw[rangeSize_one];split<;>lia
  show IsRangeIter _ _ (a+((0:Nat):Int)*1) ((((c-a).toNat:Nat):Int)-((0:Nat):Int)) 1;rw[n,m];exact zM _ rfl
 ·have e:b=(s.heap.push {cls:= .type "range",data:= .fields #[.int a t,.int c u,.int 1 v]}).objs.size:=‹h›;subst e;exact g.JZ (ze _) (g.Bw.fresh (ze _))
def mG(b:TA):TI:=fun σ H R=>b σ H fun a c=>∃j:Int,a=[.int j]/\ -(2^62)<=j/\j<2^62/\R (gG 0 j.toNat) c
theorem ER{a:Expr}{f:TA}{p b:Pos}(n:Gl X "range")(m:X.mg "range"=none)(o:PA X [a] f)(l:starEach [a] X.env=[(false,eval a X.env)]:=by rfl):PI X tg (.Call (.Name "range" p) [a] [] b) (mG f):=by intro c s σ H R I h;refine Call_ (Gm I n m boot_range (yK (Bq (o b c s σ H _ I h) fun us w ⟨v,x,u,i,d⟩=>?_) l rfl));obtain⟨j,e,d,k,q⟩:=d;subst e;cases i with|cons r g=>cases g;obtain⟨t,rfl⟩:=r;exact call_range_1 (au u ∅ ∅ d k ‹q›)
def oe(e:TI)(g:TG)(f:TS):TS:=fun D σ H=>e σ H fun J j=>∃W:Nat->Nat->St->Hp->Prop,(∃m,W 0 m σ j)/\∀i m σ H,W i m σ H->(J.stop i H/\D.nx σ H)\/(J.go i H/\∃N:St->Hp->Prop,(∀a b,N a b->∃d,d<m/\W (i+1) d a b)/\∀x b,J.Uj i H x b->g x σ b fun c h=>f {D with nx:=N,ct:=N,bk:=D.nx} c h)
def MA(a:List Addr)(h:Heap):List (Addr×Obj):=a.filterMap fun b=>(h.get? b).map fun o=>(b,o)
theorem HS{a:List Addr}{h:Heap}{o:Obj}(c:b∈a)(e:h.get? b=some o):(b,o)∈MA a h:=yA.mpr ⟨b,c,by rw[e];rfl⟩
theorem XZ{a:List Addr}{h:Heap}{p:Addr×Obj}(c:p∈MA a h):p.1∈a/\h.get? p.1=some p.2:=by obtain⟨b,d,e⟩:=yA.mp c;cases q:h.get? b with|none=>rw[q]at e;cases e|some o=>rw[q]at e;have f:(b,o)=p:=zt e;subst f;exact⟨d,q⟩
theorem As.pinned{a:List (Addr×Obj)}{σ:St}{H:Hp}{c:List Addr}(I:As X a σ H s)(j:∀b∈c,Cf X a H b)(i:∀b∈c,∃o,s.heap.get? b=some o/\∀v,o.data≠ .cell v):As X (a++MA c s.heap) σ H s:=I.WB fun p h=>(zD.mp h).elim (fun z=>I.pin p (yx _ z)) fun z=>by obtain⟨f,e⟩:=XZ z;obtain⟨m,l,k,Y⟩:=j p.1 f;obtain⟨o,g,d⟩:=i p.1 f;rw[e]at g;cases g;exact⟨e,m,l,k,d⟩
theorem As.Ii{pins pl:List (Addr×Obj)}{σ:St}{H:Hp}(I:As X (pins++pl) σ H s):As X pins σ H s:=I.WB fun p a=>I.pin p (yx _ (yB _ a))
theorem BB{p:Expr}{B:List Stmt}{wi:TI}{g:TG}{tb:TS}{U:Pos}(L:PassesOwn (model X.prog X.w) X.A X.env X.xe)(hc:X.calm=true)(hi:PI X tg p wi)(hg:PG X tg g)(q:Ri X B tb)(hs:∀x,foldedSetIterable p X.env x=pure x:=by intro Y;rfl):PS X (.For tg p B [] U) (oe wi g tb):=by
 intro c s σ H D I h;refine wpAny_For (Bq (hi c s σ H _ I h) fun v s1 h1=>Bq h1 fun a1 s2 h2=>?_) hs;obtain⟨it,O,tn,J,H2,e,I2,T,R,f2,W,⟨m0,w0⟩,turn⟩:=h2;subst e;have l:∀{z:Hp},(∀b∈O,z b=none)->∀b∈O,Cf X c z b:=fun hn b q=>⟨hn b q,(f2 b q).2⟩;refine codeAny_forLoop_any (fun n s'=>∃i k z,As X c k z s'/\tn i s'.heap/\(∀b∈O,z b=none)/\W i n k z) ?_ m0 ⟨0,σ,H2,I2,R,fun b q=>(f2 b q).1,w0⟩;rintro n s3 ⟨i,j,P,I3,G,M,w3⟩;rcases turn i n j P w3 with⟨E,qn⟩ |⟨go,N,hN,F⟩;·refine x_ L (Bq (T.done X rfl rfl rfl hc i c s3 j P X.xe I3 (l M) G E) fun r s4 ⟨V,I4⟩=>?_);subst V;exact vn ⟨j,P,I4,qn⟩
 ·refine x_ L (Bq (T.item X rfl rfl rfl hc i c s3 j P X.xe I3 (l M) G go) fun r s4 ⟨u,V,h4⟩=>?_);subst V;refine x_ L (Bq h4 fun Y s5 ⟨x,H5,I5,r5,y5,C,Z⟩=>?_);have a0:=I5.pinned (l Z) (T.obj _ _ C);refine x_ L (Bq (hg _ s5 j H5 x u _ a0 r5 (F x H5 y5)) fun Y s6 ⟨Q,H6,I6,q6⟩=>?_);refine x_ L (Bq (q _ s6 Q H6 _ I6 q6) fun f S A=>?_);have t:∀{a:St}{y:Hp},As X (c++MA O s5.heap) a y S->N a y->∃m,m<n/\∃i k z,As X c k z S/\tn i S.heap/\(∀b∈O,z b=none)/\W i m k z:=fun{a y} w K=>by obtain⟨m',hm,w7⟩:=hN a y K;refine⟨m',hm,i+1,a,y,w.Ii,T.keep _ _ _ C fun b q o e=>(w.pin (b,o) (yx _ (yx _ (HS q e)))).1,fun b q=>?_,w7⟩;obtain⟨o,e,d⟩:=T.obj _ _ C b q;exact(w.pin (b,o) (yx _ (yx _ (HS q e)))).2.1
  cases f with|next=>obtain⟨a,y,w,K⟩:=A;exact t w K|cont=>obtain⟨a,y,w,K⟩:=A;exact t w K|brk=>obtain⟨a,y,w,A⟩:=A;exact⟨a,y,w.Ii,A⟩ |ret v=>obtain⟨x7,a,y,w,r7,A⟩:=A;exact⟨x7,a,y,w.Ii,r7,A⟩
theorem Gy{K:Frag}{xs:List V}{g:TG}{j:TS}{D:Ends}{σ:St}{H:Hp}(b:Nat->St->Hp->Prop)(t:b 0 σ H)(o:∀i σ H,i<=xs.length->b i σ H->AI K H a xs)(n:∀i x σ H,xs[i]?=some x->b i σ H->g x σ H fun c h=>j {D with nx:=b (i+1),ct:=b (i+1),bk:=D.nx} c h)(s:∀σ H,b xs.length σ H->D.nx σ H):∃W:Nat->Nat->St->Hp->Prop,(∃m,W 0 m σ H)/\∀i m σ H,W i m σ H->((iD K a).stop i H/\D.nx σ H)\/((iD K a).go i H/\∃N:St->Hp->Prop,(∀d f,N d f->∃k,k<m/\W (i+1) k d f)/\∀x f,(iD K a).Uj i H x f->g x σ f fun c h=>j {D with nx:=N,ct:=N,bk:=D.nx} c h):=by
 exists fun i m σ H=>m=xs.length-i/\i<=xs.length/\b i σ H,⟨xs.length,by simp,zx _,t⟩;rintro i m σ H ⟨rfl,r,p⟩;have q:=o i σ H r p;by_cases hlt:i<xs.length;·refine .inr ⟨⟨xs,xs[i],q,by simp[hlt]⟩,b (i+1),fun d f l=>⟨xs.length-(i+1),∅,rfl,hlt,l⟩,fun x f y=>?_⟩;obtain⟨e,y⟩:=y;subst e;exact n i x σ _ (y xs q) p
 ·have e:i=xs.length:=∅;subst e;exact .inl ⟨⟨xs,q,ze _⟩,s σ H p⟩
theorem WW{K:Frag}{xs:List V}{g:TG}{j:TS}{D:Ends}{σ:St}{H:Hp}(b:Nat->St->Hp->Prop)(t:b 0 σ H)(o:∀i σ H,i<=xs.length->b i σ H->Em K H a xs)(n:∀i x σ H,xs[i]?=some x->b i σ H->g x σ H fun c h=>j {D with nx:=b (i+1),ct:=b (i+1),bk:=D.nx} c h)(s:∀σ H,b xs.length σ H->D.nx σ H):∃W:Nat->Nat->St->Hp->Prop,(∃m,W 0 m σ H)/\∀i m σ H,W i m σ H->((iB K a).stop i H/\D.nx σ H)\/((iB K a).go i H/\∃N:St->Hp->Prop,(∀d f,N d f->∃k,k<m/\W (i+1) k d f)/\∀x f,(iB K a).Uj i H x f->g x σ f fun c h=>j {D with nx:=N,ct:=N,bk:=D.nx} c h):=by
 exists fun i m σ H=>m=xs.length-i/\i<=xs.length/\b i σ H,⟨xs.length,by simp,zx _,t⟩;rintro i m σ H ⟨rfl,r,p⟩;have q:=o i σ H r p;by_cases hlt:i<xs.length;·refine .inr ⟨⟨xs,xs[i],q,by simp[hlt]⟩,b (i+1),fun d f l=>⟨xs.length-(i+1),∅,rfl,hlt,l⟩,fun x f y=>?_⟩;obtain⟨e,y⟩:=y;subst e;exact n i x σ _ (y xs q) p
 ·have e:i=xs.length:=∅;subst e;exact .inl ⟨⟨xs,q,ze _⟩,s σ H p⟩
theorem GX{f:Int}{n:Nat}{g:TG}{j:TS}{D:Ends}{σ:St}{H:Hp}(c:Nat->St->Hp->Prop)(r:c 0 σ H)(o:∀i σ H,i<n->c i σ H->g (.int (f+i)) σ H fun a h=>j {D with nx:=c (i+1),ct:=c (i+1),bk:=D.nx} a h)(q:∀σ H,c n σ H->D.nx σ H):∃W:Nat->Nat->St->Hp->Prop,(∃m,W 0 m σ H)/\∀i m σ H,W i m σ H->((gG f n).stop i H/\D.nx σ H)\/((gG f n).go i H/\∃N:St->Hp->Prop,(∀b d,N b d->∃k,k<m/\W (i+1) k b d)/\∀x d,(gG f n).Uj i H x d->g x σ d fun a h=>j {D with nx:=N,ct:=N,bk:=D.nx} a h):=by
 exists fun i m σ H=>m=n-i/\i<=n/\c i σ H,⟨n,by simp,zx _,r⟩;rintro i m σ H ⟨rfl,s,p⟩;by_cases hlt:i<n;·refine .inr ⟨hlt,c (i+1),fun b d l=>⟨n-(i+1),∅,rfl,hlt,l⟩,fun x d y=>?_⟩;obtain⟨e,y⟩:=y;subst e y;exact o i σ _ hlt p
 ·have e:i=n:=∅;subst e;exact .inl ⟨ze _,q σ H p⟩
abbrev R2:=V->V->Hp->VK->Prop
def Ia(X:Cx)(f:Value->Value->Sem Value)(r:R2):Prop:=∀(a:List (Addr×Obj))(s:Shared)(σ:St)(H:Hp)(x y:V)(v u:Value)(Q:VK),As X a σ H s->AW x v->AW y u->r x y H Q->wpX X (f v u) (EP X a σ Q) X.xe s
def pG(X:Cx)(f:Value->Sem Value)(r:V->Hp->VK->Prop):Prop:=∀(a:List (Addr×Obj))(s:Shared)(σ:St)(H:Hp)(x:V)(v:Value)(Q:VK),As X a σ H s->AW x v->r x H Q->wpX X (f v) (EP X a σ Q) X.xe s
def FG(X:Cx)(f:Value)(r:List V->Hp->VK->Prop):Prop:=∀(a:List (Addr×Obj))(s:Shared)(σ:St)(H:Hp)(xs:List V)(us:List Value)(Q:VK),As X a σ H s->AF xs us->r xs H Q->wpX X (call f us) (EP X a σ Q) X.xe s
def pH(X:Cx)(r:V->Hp->(Bool->Hp->Prop)->Prop):Prop:=∀(a:List (Addr×Obj))(s:Shared)(σ:St)(H:Hp)(x:V)(v:Value)(Q:Bool->Hp->Prop),As X a σ H s->AW x v->r x H Q->wpX X (truthy v) (TP X a σ Q) X.xe s
def Rw(r:R2)(b a:TE):TE:=fun σ H Q=>b σ H fun x d=>a σ d fun y c=>r x y c Q
def qM(r:V->Hp->VK->Prop)(a:TE):TE:=fun σ H Q=>a σ H fun x b=>r x b Q
inductive rI(C:Int->Int->Prop)(g:Int->Int->V)(x:V)(y:V)(H:Hp)(Q:VK):Prop|mk(i j:_):x= .int i->y= .int j->C i j->Q (g i j) H->rI C g x y H Q
inductive W4(g:Int->Int->V)(x:V)(y:V)(H:Hp)(Q:VK):Prop|mk(i j:_):x= .int i->y= .int j->Q (g i j) H->W4 g x y H Q
def rU(g:Int->V):V->Hp->VK->Prop:=fun x H Q=>∃i,x= .int i/\Q (g i) H
section
variable{a b c:Expr}{tb tc:TE}{pos:Pos}
theorem kG(r:PE X a ta)(q:PE X b tb){c:List (Addr×Obj)}{σ:St}{H:Hp}{R:V->V->Hp->Prop}(I:As X c σ H s)(h:ta σ H fun x j=>tb σ j fun y d=>R x y d)(p:∀v u i x y d,As X c σ d i->AW x v->AW y u->R x y d->wpX X (f v u) Q X.xe i):wpX X (eval a X.env) (fun v g=>wpX X (eval b X.env) (fun u e=>wpX X (f v u) Q X.xe e) X.xe g) X.xe s:=by refine Bq (r c s σ H _ I h) fun v k ⟨x,j,w,m,o⟩=>?_;refine Bq (q c k σ j _ w o) fun u i ⟨y,d,t,l,n⟩=>?_;exact p v u i x y d t m l n
theorem A9{d:Operator}{r:R2}(i:Ia X (binaryOp d) r)(k:PE X a ta)(j:PE X b tb):PE X (.BinOp a d b pos) (Rw r ta tb):=by intro c s σ H Q I h;exact wpAny_BinOp (kG k j I h fun v u e x y m l g f q=>i c e σ m x y v u Q l g f q)
theorem Hq{c:UnaryOp}{r:V->Hp->VK->Prop}(g:pG X (unaryOp c) r)(i:PE X a ta):PE X (.UnaryOp c a pos) (qM r ta):=by intro b s σ H Q I h;exact UnaryOp_ (Bq (i b s σ H _ I h) fun v d ⟨x,k,j,e,f⟩=>g b d σ k x v Q j e f)
theorem oU{C:Int->Int->Prop}{g:Int->Int->Int}(a:∀(i j:Int)(t u:Tok)(s:Shared)(Q:Value->Shared->Prop)(E:Value->Shared->Prop),C i j->Q (.int (g i j) s.toks) {s with toks:=s.toks+1}->wpX X (f (.int i t) (.int j u)) Q E s):Ia X f (rI C fun i j=> .int (g i j)):=by intro b s σ H x y v u Q I d c h;obtain⟨i,j,rfl,rfl,e,q⟩:=h;obtain⟨t,rfl⟩:=d;obtain⟨t',rfl⟩:=c;exact a i j t t' s _ _ e ⟨.int (g i j),H,I.tok _,⟨_,rfl⟩,q⟩
theorem jE{g:Int->Int->Int}(a:∀(i j:Int)(t u:Tok)(s:Shared)(Q:Value->Shared->Prop)(E:Value->Shared->Prop),Q (.int (g i j) s.toks) {s with toks:=s.toks+1}->wpX X (f (.int i t) (.int j u)) Q E s):Ia X f (W4 fun i j=> .int (g i j)):=by intro b s σ H x y v u Q I d c h;obtain⟨i,j,rfl,rfl,q⟩:=h;obtain⟨t,rfl⟩:=d;obtain⟨t',rfl⟩:=c;exact a i j t t' s _ _ ⟨.int (g i j),H,I.tok _,⟨_,rfl⟩,q⟩
theorem fm{g:Int->Int->Bool}(a:∀(i j:Int)(t u:Tok)(s:Shared)(Q:Value->Shared->Prop)(E:Value->Shared->Prop),Q (.bool (g i j)) s->wpX X (f (.int i t) (.int j u)) Q E s):Ia X f (W4 fun i j=> .bl (g i j)):=by intro b s σ H x y v u Q I d c h;obtain⟨i,j,rfl,rfl,q⟩:=h;obtain⟨t,rfl⟩:=d;obtain⟨t',rfl⟩:=c;exact a i j t t' s _ _ ⟨.bl (g i j),H,I,rfl,q⟩
def pQ(i j:Int):Prop:=0<j/\j<1073741824
def kU(i j:Int):Prop:=(-(2^64)<i/\i<2^64)\/(-(2^64)<j/\j<2^64)
theorem kU.ok{i j:Int}(h:kU i j):IntMulOk i j:=by
 rcases h with⟨b,a⟩ |⟨b,a⟩;·exact .of_left (intBits_le_64 b a)
 ·exact .of_right (intBits_le_64 b a)
theorem Ce:Ia X (binaryOp .Add) (W4 fun i j=> .int (i+j)):=jE fun Y Y Y Y Y Y Y q=>add_int q
theorem Eb:Ia X (binaryOp .Sub) (W4 fun i j=> .int (i-j)):=jE fun Y Y Y Y Y Y Y q=>sub_int q
theorem Ec:Ia X (binaryOp .Mult) (rI kU fun i j=> .int (i*j)):=oU fun Y Y Y Y Y Y Y a q=>mul_int q a.ok
theorem IK:Ia X (binaryOp .FloorDiv) (rI pQ fun i j=> .int (i/j)):=oU fun i j Y Y Y Y Y a q=>by have c:(0:Int)<j:=a.1;have b:j<1073741824:=a.2;exact floordiv_int ∅ (by rw[Int.fdiv_eq_ediv_of_nonneg i ∅];exact q) (.inl (sy ∅))
theorem ME:Ia X (binaryOp .Mod) (rI (fun Y j=>0<j) fun i j=> .int (i%j)):=oU fun i j Y Y Y Y Y a q=>by have b:(0:Int)<j:=a;exact mod_int' ∅ (by rw[Int.fmod_eq_emod_of_nonneg i ∅];exact q)
theorem be:Ia X (binaryOp .BitAnd) (W4 fun i j=> .int (Builtin.bitAnd i j)):=jE fun Y Y Y Y Y Y Y q=>and_int q
theorem qL{f:Value->Sem Value}{g:Int->Int}(a:∀(i:Int)(t:Tok)(s:Shared)(Q:Value->Shared->Prop)(E:Value->Shared->Prop),Q (.int (g i) s.toks) {s with toks:=s.toks+1}->wpX X (f (.int i t)) Q E s):pG X f (rU fun i=> .int (g i)):=by intro b s σ H x v Q I c h;obtain⟨i,rfl,q⟩:=h;obtain⟨t,rfl⟩:=c;exact a i t s _ _ ⟨.int (g i),H,I.tok _,⟨_,rfl⟩,q⟩
theorem EC:pG X (unaryOp .USub) (rU fun i=> .int (-i)):=qL fun Y Y Y Y Y q=>neg_int q
end
def lL:V->V->Bool| .Bz,.Bz=>true| .Bz,.int _=>true| .int _,.Bz=>true| .Bz,.bl _=>true| .bl _,.Bz=>true| .Bz,.str _=>true| .str _,.Bz=>true| .int _,.int _=>true| .bl _,.bl _=>true| .str _,.str _=>true| .Rh _,.Rh _=>true| .int _,.str _=>true| .str _,.int _=>true| .bl _,.str _=>true| .str _,.bl _=>true|_,_=>false
def nG:R2:=fun x y H Q=>lL x y=true/\Q (.bl (decide (x=y))) H
def pZ:R2:=fun x y H Q=>lL x y=true/\Q (.bl (!decide (x=y))) H
theorem Xg{i j:Int}:decide (V.int i=V.int j)=(i==j):=by rw[zZ];simp
theorem cP{i j:Bool}:decide (V.bl i=V.bl j)=(i==j):=by rw[zZ];simp
theorem Xf{i j:Str}:decide (V.str i=V.str j)=(i==j):=by rw[zZ];simp
theorem Xh{i j:Array UInt8}:decide (V.Rh i=V.Rh j)=(i.toList==j.toList):=by rw[zZ];cases i;cases j;simp
section
variable{a b c:Expr}{tb tc:TE}{pos:Pos}
theorem Bh{a:List (Addr×Obj)}{σ:St}{H:Hp}{Q:VK}{k b:Bool}(I:As X a σ H s)(q:Q (.bl k) H)(e:k=b):EP X a σ Q (.bool b) s:=by subst e;exact⟨.bl k,H,I,rfl,q⟩
theorem AX:Ia X (compareOp .Eq) nG:=by
 intro d s σ H x y v u Q I c a h;obtain⟨b,q⟩:=h;cases x with
 |Bz=>cases c;cases y with|Bz=>cases a;exact PySem.EqNone.eq_none_none (Bh I q (by simp)) |bl j=>cases a;exact PySem.EqNone.eq_none_bool (Bh I q (by simp)) |int j=>obtain⟨t',rfl⟩:=a;exact PySem.EqNone.eq_none_int (Bh I q (by simp)) |str j=>obtain⟨t',rfl⟩:=a;exact PySem.EqNone.eq_none_str (Bh I q (by simp)) |_=>exact absurd (show false=true from b) zQ
 |bl i=>cases c;cases y with|Bz=>cases a;exact PySem.EqNone.eq_bool_none (Bh I q (by simp)) |bl j=>cases a;exact eq_bool (Bh I q cP) |str j=>obtain⟨t',rfl⟩:=a;exact PySem.EqMixed.eq_bool_str (Bh I q (by simp)) |_=>exact absurd (show false=true from b) zQ
 |int i=>obtain⟨t,rfl⟩:=c;cases y with|Bz=>cases a;exact PySem.EqNone.eq_int_none (Bh I q (by simp)) |int j=>obtain⟨t',rfl⟩:=a;exact eq_int (Bh I q Xg) |str j=>obtain⟨t',rfl⟩:=a;exact PySem.EqMixed.eq_int_str (Bh I q (by simp)) |_=>exact absurd (show false=true from b) zQ
 |str i=>obtain⟨t,rfl⟩:=c;cases y with|Bz=>cases a;exact PySem.EqNone.eq_str_none (Bh I q (by simp)) |bl j=>cases a;exact PySem.EqMixed.eq_str_bool (Bh I q (by simp)) |int j=>obtain⟨t',rfl⟩:=a;exact PySem.EqMixed.eq_str_int (Bh I q (by simp)) |str j=>obtain⟨t',rfl⟩:=a;exact eq_str (Bh I q Xf) |_=>exact absurd (show false=true from b) zQ
 |Rh i=>obtain⟨t,rfl⟩:=c;cases y with|Rh j=>obtain⟨t',rfl⟩:=a;exact PySem.W.eq_bytes (Bh I q Xh) |_=>exact absurd (show false=true from b) zQ
 |_=>cases y<;>exact absurd (show false=true from b) zQ
theorem Hr:Ia X (compareOp .NotEq) pZ:=by
 intro d s σ H x y v u Q I c a h;obtain⟨b,q⟩:=h;cases x with
 |Bz=>cases c;cases y with|Bz=>cases a;exact PySem.EqNone.ne_none_none (Bh I q (by simp)) |bl j=>cases a;exact PySem.EqNone.ne_none_bool (Bh I q (by simp)) |int j=>obtain⟨t',rfl⟩:=a;exact PySem.EqNone.ne_none_int (Bh I q (by simp)) |str j=>obtain⟨t',rfl⟩:=a;exact PySem.EqNone.ne_none_str (Bh I q (by simp)) |_=>exact absurd (show false=true from b) zQ
 |bl i=>cases c;cases y with|Bz=>cases a;exact PySem.EqNone.ne_bool_none (Bh I q (by simp)) |bl j=>cases a;exact ne_bool (Bh I q (zT not cP)) |str j=>obtain⟨t',rfl⟩:=a;exact PySem.EqMixed.ne_bool_str (Bh I q (by simp)) |_=>exact absurd (show false=true from b) zQ
 |int i=>obtain⟨t,rfl⟩:=c;cases y with|Bz=>cases a;exact PySem.EqNone.ne_int_none (Bh I q (by simp)) |int j=>obtain⟨t',rfl⟩:=a;exact ne_int (Bh I q (zT not Xg)) |str j=>obtain⟨t',rfl⟩:=a;exact PySem.EqMixed.ne_int_str (Bh I q (by simp)) |_=>exact absurd (show false=true from b) zQ
 |str i=>obtain⟨t,rfl⟩:=c;cases y with|Bz=>cases a;exact PySem.EqNone.ne_str_none (Bh I q (by simp)) |bl j=>cases a;exact PySem.EqMixed.ne_str_bool (Bh I q (by simp)) |int j=>obtain⟨t',rfl⟩:=a;exact PySem.EqMixed.ne_str_int (Bh I q (by simp)) |str j=>obtain⟨t',rfl⟩:=a;exact ne_str (Bh I q (zT not Xf)) |_=>exact absurd (show false=true from b) zQ
 |Rh i=>obtain⟨t,rfl⟩:=c;cases y with|Rh j=>obtain⟨t',rfl⟩:=a;exact PySem.W.ne_bytes (Bh I q (zT not Xh)) |_=>exact absurd (show false=true from b) zQ
 |_=>cases y<;>exact absurd (show false=true from b) zQ
theorem FA:Ia X (compareOp .Lt) (W4 fun i j=> .bl (decide (i<j))):=fm fun Y Y Y Y Y Y Y q=>lt_int q
theorem aX:Ia X (compareOp .LtE) (W4 fun i j=> .bl (decide (i<=j))):=fm fun Y Y Y Y Y Y Y q=>le_int q
theorem a_:Ia X (compareOp .Gt) (W4 fun i j=> .bl (decide (j<i))):=fm fun Y Y Y Y Y Y Y q=>gt_int q
theorem bb:Ia X (compareOp .GtE) (W4 fun i j=> .bl (decide (j<=i))):=fm fun Y Y Y Y Y Y Y q=>ge_int q
theorem aY:Ia X (compareOp .Is) (fun x y H Q=>y= .Bz/\Q (.bl (decide (x= .Bz))) H):=by intro b s σ H x y v u Q I a c h;obtain⟨rfl,q⟩:=h;cases c;refine is_none_gen (Bh I q ?_);cases x<;>first|(cases a;rfl) |(obtain⟨t,rfl⟩:=a;rfl)
theorem bp(b:Expr){a:CmpOp}(h:a≠ .In:=by decide)(c:a≠ .NotIn:=by decide):behindInMarks a b=false:=by
 have e:(a==CmpOp.In)=false:=by cases a<;>first|rfl|exact absurd rfl h
 have d:(a==CmpOp.NotIn)=false:=by cases a<;>first|rfl|exact absurd rfl c
 cases b<;>simp[behindInMarks,e,d]
theorem Bn{d:CmpOp}{r:R2}(i:Ia X (compareOp d) r)(l:PE X a ta)(k:PE X b tb)(j:behindInMarks d b=false:=by exact bp _):PE X (.Compare a [d] [b] pos) (Rw r ta tb):=by intro c s σ H Q I h;exact wpAny_Compare1 (kG l k I h fun v u e x y n m g f q=>i c e σ n x y v u Q m g f q) j
inductive Zo(Q:Bool->Hp->Prop)(x:V)(H':Hp):Prop|mk(k:_):x= .bl k->Q k H'->Zo Q x H'
def Oq(t:TE):TT:=fun σ H Q=>t σ H (Zo Q)
theorem Ao{f:CmpOp}{r:R2}(q:Ia X (compareOp f) r)(A:PE X a ta)(w:PE X b tb)(t:behindInMarks f b=false:=by exact bp _):PT X (.Compare a [f] [b] pos) (Oq (Rw r ta tb)):=by intro d s σ H Q I h;refine qb (Bq (A d s σ H _ I h) fun v i ⟨x,G,D,m,p⟩=>Bq (w d i σ G _ D p) fun u g ⟨y,F,C,l,o⟩=>Bq (q d g σ F x y v u _ C m l o) fun c J ⟨z,E,B,j,k,e,n⟩=>?_) t;subst e;cases j;exact yS ⟨E,B,n⟩
def Zt(r f:R2)(e d c:TE):TE:=fun σ H Q=>e σ H fun x i=>d σ i fun y h=>r x y h fun z a=>∃k,z= .bl k/\(if k=true then c σ a fun b g=>f y b g Q else Q (.bl false) a)
theorem Sj{i g:CmpOp}{r m:R2}(L:Ia X (compareOp i) r)(j:Ia X (compareOp g) m)(P:PE X a ta)(O:PE X b tb)(N:PE X c tc)(M:lastMarks [i,g] [b,c]=false:=by with_unfolding_all rfl):PE X (.Compare a [i,g] [b,c] pos) (Zt r m ta tb tc):=by intro f s σ H Q I h;refine Compare_chain (Bq (P f s σ H _ I h) fun v C ⟨x,W,T,F,K⟩=>chain_link (Bq (O f C σ W _ T K) fun u B ⟨y,V,S,l,J⟩=>Bq (L f B σ V x y v u _ S F l J) fun d A ⟨z,p,o,E,k,e,n⟩=>?_)) M;subst e;cases E;refine yS ?_;cases k with|false=>exact ite_ff ⟨.bl false,p,o,rfl,n⟩ |true=>exact ite_tt (chain_last (Bq (N f A σ p _ o n) fun t w ⟨q,U,R,D,G⟩=>j f w σ U y q u t Q R l D G))
def kO(K:Frag)(x:V)(H:Hp)(k:Bool):Prop:=match x with| .Bz=>k=false| .bl b=>k=b| .int i=>k=(i !=0) | .str y=>y.length<=sizeLine/\k=((y.length:Int) !=0) | .Rh y=>y.size<=sizeLine/\k=((y.size:Int) !=0) | .ref p=>(∃xs,AI K H p xs/\k=!xs.isEmpty)\/(∃xs,Em K H p xs/\k=!xs.isEmpty)\/∃a,H p=some (.dK a)/\k=!a.isEmpty|_=>False
theorem Vi{b:Type}{a:List (b×V)}{c:List (b×Value)}(r:KV a c):(!c.isEmpty)=!a.isEmpty:=by cases r<;>rfl
theorem Nb{xs:List V}{a:List Value}(r:AF xs a):(!a.toArray.isEmpty)=!xs.isEmpty:=by cases r<;>simp
theorem Gi:(sizeLine:Nat)<2^63:=by rw[uO];decide
theorem iM:pH X (fun x H Q=>∃k,kO X.K x H k/\Q k H):=by
 intro n s σ H x v Q I f h;obtain⟨k,e,q⟩:=h;have A:=Gi;have z:sizeLine=16777216:=uO;cases x with
 |Bz=>cases f;have a:k=false:=e;subst a;exact truthy_none ⟨H,I,q⟩
 |bl b=>cases f;have a:k=b:=e;subst a;exact yS ⟨H,I,q⟩
 |int i=>obtain⟨t,rfl⟩:=f;have a:k=(i !=0):=e;subst a;exact PySem.P.truthy_int ⟨H,I,q⟩
 |str y=>obtain⟨t,rfl⟩:=f;obtain⟨u,a⟩:y.length<=sizeLine/\k=((y.length:Int) !=0):=e;subst a;exact PySem.P.truthy_str ∅ ⟨H,I.tok _,q⟩
 |Rh y=>obtain⟨t,rfl⟩:=f;obtain⟨u,a⟩:y.size<=sizeLine/\k=((y.size:Int) !=0):=e;subst a;exact PySem.W.truthy_bytes ∅ ⟨H,I.tok _,q⟩
 |ref p=>
  cases f;have a:(∃xs,AI X.K H p xs/\k=!xs.isEmpty)\/(∃xs,Em X.K H p xs/\k=!xs.isEmpty)\/∃c,H p=some (.dK c)/\k=!c.isEmpty:=e;rcases a with⟨xs,g,a⟩ |⟨xs,g,a⟩ |⟨c,g,a⟩;·subst a;obtain⟨l,r,pl,o⟩:=I.list g;have d:=r.length;exact wpAny_truthy_list pl.isList (by simp only[zI];lia) ⟨H,I.tok _,by rw[Nb r];exact q⟩
  ·subst a;obtain⟨l,r,pl,o⟩:=I.tuple g;have d:=r.length;exact truthy_tuple pl (by simp only[zI];lia) ⟨H,I.tok _,by rw[Nb r];exact q⟩
  ·subst a;obtain⟨o,w,j,r,m⟩:c.length<=sizeLine/\(p==sysModules)=false/\∃j,KV c j/\s.heap.DictOf (BM X.prog X.w) p j:=I.Bw p _ g;have d:c.length=j.length:=zE r;exact wpAny_truthy_dict w m ∅ ⟨H,I.tok _,by rw[Vi r];exact q⟩
 |_=>exact(show False from e).elim
theorem IF(j:PE X a ta)(i:∀b,isTrue a X.env b=(do
 let v<-b
 standAt a.pos
 holding [v] (truthy v))):PT X a (fun σ H Q=>ta σ H fun x d=>∃k,kO X.K x d k/\Q k d):=by intro c s σ H Q I h;exact isTrue_plain (Bq (j c s σ H _ I h) fun v e ⟨x,m,l,f,g⟩=>iM c e σ m x v Q l f g) (i _)
theorem Ee:Ia X (binaryOp .Add) (fun x y H Q=>∃i j,x= .str i/\y= .str j/\i.length+j.length<=sizeLine/\Q (.str (i++j)) H):=by intro a s σ H x y v u Q I c b h;obtain⟨i,j,rfl,rfl,d,q⟩:=h;obtain⟨t,rfl⟩:=c;obtain⟨t',rfl⟩:=b;exact add_str (fun t' e=>⟨.str (i++j),H,I.tok _,⟨_,rfl⟩,q⟩) d
theorem SM:Ia X (inplaceOp .Add) (fun x y H Q=>∃i j,x= .str i/\y= .str j/\i.length+j.length<=sizeLine/\Q (.str (i++j)) H):=by intro a s σ H x y v u Q I c b h;obtain⟨i,j,rfl,rfl,d,q⟩:=h;obtain⟨t,rfl⟩:=c;obtain⟨t',rfl⟩:=b;exact iadd_str (fun t' e=>⟨.str (i++j),H,I.tok _,⟨_,rfl⟩,q⟩) d
theorem vals1{x:V}(r:AF [x] us):∃u,us=[u]/\AW x u:=by cases r with|cons b a=>cases a;exact⟨_,rfl,b⟩
theorem QS:FG X (.type "str") (fun xs H Q=>∃i,xs=[.int i]/\i.natAbs.log2<1920/\Q (.str (toString i)) H):=by intro a s σ H xs us Q I r h;obtain⟨i,rfl,b,q⟩:=h;obtain⟨u,rfl,t,rfl⟩:=vals1 r;exact PySem.P.str_of_int b ⟨.str _,H,I.tok _,⟨_,rfl⟩,q⟩
theorem T_:FG X (.builtin "ord") (fun xs H Q=>∃x,xs=[.str x]/\x.length=1/\Q (.int (x.cps.getD 0 0:Nat)) H):=by intro a s σ H xs us Q I r h;obtain⟨x,rfl,b,q⟩:=h;obtain⟨u,rfl,t,rfl⟩:=vals1 r;exact ord_of_one b ⟨.int _,H,I.tok _,⟨_,rfl⟩,q⟩
end
structure VM(h:Heap)(x dx C:Addr)(mA:Str->Option Value):Prop where
 obj:h.get? x=some (instObj C dx)
 ns:h.Ns1 dx mA
 ne:dx≠x
theorem Pf{h:Heap}{i:Addr}{f:Str->Option Value}(n:h.Ns1 i f):∃d,h.get? i=some d/\∀b,lookIn b d=some (f b):=by
 obtain⟨o,g,s,k,p,m,Y,l⟩:=n;refine⟨o,k,fun b=>?_⟩;have e:=l b;unfold nsFind findBy at e;rw[<-Array.find?_toList]at e;unfold lookIn;rw[p];cbv;split;·rename_i y q;rw[q]at e;exact zT some e
 ·rename_i q;rw[q]at e;have a:g.toList.any (·.refKey)=false:=by rw[rP];intro y j;obtain⟨z,t,c⟩:=m y (Array.mem_toList_iff.mp j);simp[DictEntry.refKey,c]
  have r:¬g.toList.any (·.refKey)=true:=by rw[a];exact zQ
  rw[zb r];exact zT some e
theorem VM.look{h:Heap}{x d:Addr}{c:Str->Option Value}(I:VM h x d C c):∃b,PySem.W.InstAt h x (instObj C d) C (some b)/\∀a,lookIn a b=some (c a):=let⟨b,ho,hl⟩:=Pf I.ns;⟨b,⟨I.obj,rfl,rfl,ho⟩,hl⟩
section
variable{w:World}{K:Frag}{x dx f:Addr}{mA:Str->Option Value}{name:Str}{v:Value}
theorem get_map{a:Bool}(X:K.In s.heap)(I:VM s.heap x dx C mA)(f:plainGet K C name=true)(e:hasDictIn K C=true)(g:findIn K (.ref C) name=some none)(c:mA name=some v)(b:handedIn v=true)(h:Q v {s with toks:=s.toks+1}):wpAny (model prog w) A (getAttr (.ref x) name a) Q E s:=by obtain⟨i,J,d⟩:=I.look;exact PySem.W.get_value X J (uy f).1 (rh e g rfl (by rw[d,c])) b h
theorem cq{Q:Value×List Value->Shared->Prop}(X:K.In s.heap)(I:VM s.heap x dx C mA)(a:plainGet K C name=true)(g:findIn K (.ref C) name=some (some (.ref f)))(d:isFn K (.ref f)=true)(c:mA name=none)(h:Q (.ref f,[.ref x]) s):wpAny (model prog w) A (getMethod (.ref x) name pl) Q E s:=by obtain⟨b,J,e⟩:=I.look;exact PySem.W.method_fn X J (uy a).1 (uy a).2 g (zP.mp d) (by show(lookIn name b).map (·.isSome)=some false;rw[e,c];rfl) h
theorem eC{k:List Str}{Q:Unit->Shared->Prop}(X:K.In s.heap)(I:VM s.heap x dx C mA)(p:findIn K (.ref C) "__setattr__"=some (some (.builtin "object.__setattr__")))(q:plainOver K C=true)(n:takerIn K C name=some none)(t:hasDictIn K C=true)(m:PySem.Within mA k)(o:k.length<=sizeLine)(h:∀e,VM e x dx C (fun y=>if y=name then some v else mA y)->Heap.SameBut dx s.heap e->Q () {s with heap:=e,toks:=s.toks+2}):wpAny (model prog w) A (setAttr (.ref x) name v) Q E s:=by obtain⟨D,J,G⟩:=I.look;refine rL X J p (PySem.W.osa_open (s:={s with toks:=s.toks+1}) (r:=none) X J q n fun b=>?_);obtain⟨H,u,i⟩:=uX t;have l:s.heap.get? x=some ⟨.ref C,some dx,.plain,#[]⟩:=I.obj;refine za (zr (za (za (sP l (za (Looks.here (s:={s with toks:=s.toks+1}) (vb X u) ?_))))));rw[i];refine zr (a:=some dx) (za (zr (za ?_)));refine wpAny_nsSet1 (s:={s with toks:=s.toks+1}) I.ns fun e d c=>?_;obtain⟨F,z,B,f,g,j⟩:=d.count (rK name v m);refine za (wpAny_lookBehind f (by rw[g];exact pastItsLine_dict (z_ j (by rw[zm];lia))) ?_);exact zr (h _ ⟨(c.2 _ (zN I.ne)).trans I.obj,d,I.ne⟩ c)
theorem bG{R:Result->Shared->Prop}{a:List Value}{b:List (Str×Value)}(X:K.In s.heap)(c:makesIn K C=true)(e:findIn K (.ref C) "__init__"=some (some (.ref f)))(i:typeIn K (.ref f)=some (.type "function"))(h:codeAny (model prog w) (A.under (.builtin "type.__call__" ⟨.ref C::a,b⟩)) (.call (.ref f) ⟨.ref (s.heap.objs.size+1)::a,b⟩) (InitBack (s.heap.objs.size+1) R) {s with heap:=(s.heap.push emptyDict).push (instObj C s.heap.objs.size)}):codeAny (model prog w) A (.call (.ref C) ⟨a,b⟩) R s:=by obtain⟨j,g,d,t,os⟩:=s;exact PySem.W.make_core (PySem.W.makes_of X c) (xB X e) (fun self=>qd X self i) (.inl rfl) h
end
def Bx(f:Str)(v:V):List (Str×V)->List (Str×V) |[]=>[(f,v)] |(g,x)::r=>if g=f then(g,v)::r else(g,x)::Bx f v r
theorem Gh(f g:Str)(v:V):∀b:List (Str×V),(Bx f v b).lookup g=if g=f then some v else b.lookup g
|[]=>by
 show List.lookup g [(f,v)]=_;by_cases h:g=f;·have a:(g==f)=true:=zP.mpr h;simp only[List.lookup,a,zc h]
 ·have a:(g==f)=false:=zL.mpr h;simp only[List.lookup,a,zb h]
|(k,x)::r=>by
 have c:=Gh f g v r;rw[show Bx f v ((k,x)::r)=(if k=f then(k,v)::r else(k,x)::Bx f v r)from rfl];by_cases hk:k=f
 ·rw[zc hk];by_cases h:g=k;·have a:(g==k)=true:=zP.mpr h;simp only[List.lookup,a,zc (h.trans hk)]
  ·have a:(g==k)=false:=zL.mpr h;simp only[List.lookup,a,zb (fun e:g=f=>h (e.trans hk.symm))]
 ·rw[zb hk];by_cases h:g=k;·have a:(g==k)=true:=zP.mpr h;simp only[List.lookup,a,zb (fun e:g=f=>hk (h.symm.trans e))]
  ·have a:(g==k)=false:=zL.mpr h;simp only[List.lookup,a];exact c
theorem JS(f:Str)(v:V):∀a:List (Str×V),f∈(Bx f v a).map (·.1)/\∀g,g∈a.map (·.1)->g∈(Bx f v a).map (·.1)
|[]=>⟨by simp[Bx],fun g h=>by simp at h⟩
|(k,x)::r=>by
 obtain⟨c,b⟩:=JS f v r;rw[show Bx f v ((k,x)::r)=(if k=f then(k,v)::r else(k,x)::Bx f v r)from rfl];by_cases hk:k=f;·rw[zc hk];subst hk;exact⟨by simp,fun g h=>‹h›⟩
 ·rw[zb hk];refine⟨?_,fun g h=>?_⟩;·rw[zH];exact zg _ c
  ·rw[zH]at h|-;rcases zw.mp h with e|e;·exact zw.mpr (.inl e)
   ·exact zg _ (b g e)
theorem Gk(f:Str)(v:V):∀a:List (Str×V),(Bx f v a).length<=a.length+1
|[]=>by simp[Bx]
|(k,x)::r=>by
 have b:=Gk f v r;rw[show Bx f v ((k,x)::r)=(if k=f then(k,v)::r else(k,x)::Bx f v r)from rfl];by_cases hk:k=f;·rw[zc hk,zm,zm];lia
 ·rw[zb hk,zm,zm];lia
theorem FK.some_of{v:V}{o:Option Value}(r:FK (some v) o):∃u,o=some u/\AW v u:=by cases o with|none=>exact(show False from r).elim|some u=>exact⟨u,rfl,r⟩
theorem FK.none_of{o:Option Value}(r:FK none o):o=none:=by cases o with|none=>rfl|some u=>exact(show False from r).elim
theorem Pu{v:V}(r:AW v u):handedIn u=true:=by cases v with|Bz=>cases(show u=Value.none from r);rfl|bl b=>cases(show u=Value.bool b from r);rfl|int i=>obtain⟨t,e⟩:=(show∃t,u=Value.int i t from r);cases e;rfl|str x=>obtain⟨t,e⟩:=(show∃t,u=Value.str x t from r);cases e;rfl|Rh b=>obtain⟨t,e⟩:=(show∃t,u=Value.bytes b t from r);cases e;rfl|nQ b=>obtain⟨t,e⟩:=(show∃t,u=Value.float b t from r);cases e;rfl|ref a=>cases(show u=Value.ref a from r);rfl|ty n=>cases(show u=Value.type n from r);rfl
section
variable{P:Program}{w:World}{H H':Hp}{h h':Heap}{dx:Addr}{fs fs':List (Str×V)}
theorem Q1(c:FL P w H h)(e:H a=some (.ins C dx fs)):∃b,VM h a dx C b/\(∀f,FK (fs.lookup f) (b f))/\PySem.Within b (fs.map (·.1))/\fs.length<=1000/\H dx=some (.own a):=by obtain⟨d,z,i,g,b,n,r,q⟩:=(show B6 P w H h a (.ins C dx fs)from c a _ e);exact⟨b,⟨g,n,i⟩,r,q,z,d⟩
end
structure Rj(K:Frag)(C:Addr):Prop where
 pg:plainGet K C Str.empty=true
 hd:hasDictIn K C=true
 po:plainOver K C=true
 sa:findIn K (.ref C) "__setattr__"=some (some (.builtin "object.__setattr__"))
theorem Rj.get{K:Frag}(c:Rj K C)(f:Str):plainGet K C f=true:=c.pg
def Bl(K:Frag)(C:Addr)(f:Str):Prop:=findIn K (.ref C) f=some none
theorem Bl.lA{K:Frag}{f:Str}(n:Bl K C f):takerIn K C f=some none:=by unfold takerIn;rw[show findIn K (.ref C) f=some none from n];rfl
structure N6(K:Frag)(C:Addr)(m:Str)(f:Addr):Prop where
 at_:findIn K (.ref C) m=some (some (.ref f))
 fn:isFn K (.ref f)=true
 kp:keepIn K (.ref f)=true
section
variable{σ:St}{H:Hp}{dx:Addr}{fs:List (Str×V)}{f:Str}{v:V}
theorem Nl{b:Bool}(I:As X pins σ H s)(e:H a=some (.ins C dx fs))(c:Rj X.K C)(n:Bl X.K C f)(l:fs.lookup f=some v)(h:∀u d,As X pins σ H d->AW v u->Q u d):wpAny (model X.prog X.w) A (getAttr (.ref a) f b) Q E s:=by obtain⟨i,O,r,Y,Y,Y⟩:=Q1 I.Bw e;obtain⟨u,j,g⟩:=FK.some_of (v:=v) (o:=i f) (by rw[<-l];exact r f);exact get_map I.Gp O (c.get f) c.hd n j (Pu g) (h u _ (I.tok _) g)
theorem Nk{m:Str}{g:Addr}{Q:Value×List Value->Shared->Prop}(I:As X pins σ H s)(e:H a=some (.ins C dx fs))(c:Rj X.K C)(k:N6 X.K C m g)(l:fs.lookup m=none)(h:Q (.ref g,[.ref a]) s):wpAny (model X.prog X.w) A (getMethod (.ref a) m pl) Q E s:=by obtain⟨b,O,r,Y,Y,Y⟩:=Q1 I.Bw e;have d:b m=none:=FK.none_of (by rw[<-l];exact r m);exact cq I.Gp O (c.get m) k.at_ k.fn d h
theorem Mo{y:V}{Q:Unit->Shared->Prop}(I:As X pins σ H s)(e:H a=some (.ins C dx fs))(c:Rj X.K C)(n:Bl X.K C f)(F:fs.length<1000)(p:AW y u)(h:∀j,As X pins σ (Av H a (.ins C dx (Bx f y fs))) j->Q () j):wpAny (model X.prog X.w) A (setAttr (.ref a) f u) Q E s:=by
 obtain⟨k,O,r,i,Y,l⟩:=Q1 I.Bw e;have t:(fs.map (·.1)).length<=sizeLine:=by rw[z3,uO];lia
 refine eC I.Gp O c.sa c.po n.lA c.hd i t fun D d m=>h _ ?_;have w:∃o,D.get? dx=some o:=let⟨o,_,_,e',_⟩:=d.ns;⟨o,e'⟩;refine I.write (x:=a) (e:=dx) (by rw[e];exact True.intro) (.inr l) (fun b q B z=>(m.2 b B).trans z) w ?_;refine⟨by rw[Ac O.ne];exact l,?_,O.ne,d.obj,_,d.ns,fun g=>?_,fun g v=>?_⟩;·have:=Gk f y fs;lia
 ·show FK ((Bx f y fs).lookup g) (if g=f then some u else k g);rw[Gh];by_cases q:g=f;·rw[zc q,zc q];exact p
  ·rw[zb q,zb q];exact r g
 ·by_cases q:g=f;·rw[q];exact(JS f y fs).1
  ·refine(JS f y fs).2 g (i g fun z=>v ?_);show(if g=f then some u else k g)=none;rw[zb q];exact z
theorem As.made(I:As X pins σ H s):As X pins σ (Av (Av H s.heap.objs.size (.own (s.heap.objs.size+1))) (s.heap.objs.size+1) (.ins C s.heap.objs.size [])) {s with heap:=(s.heap.push emptyDict).push (instObj C s.heap.objs.size)}:=by
 have d:(s.heap.push emptyDict).get? s.heap.objs.size=some emptyDict:=zM s.heap rfl;have i:((s.heap.push emptyDict).push (instObj C s.heap.objs.size)).get? (s.heap.objs.size+1)=some (instObj C s.heap.objs.size):=by have:=zM (s.heap.push emptyDict) (o:=instObj C s.heap.objs.size) rfl;rwa[yk]at this
 have h:(s.heap.push emptyDict).Ns s.heap.objs.size (fun Y=>none):=⟨emptyDict,#[],_,d,rfl,(fun e g=>absurd g (by simp)),fun Y=>rfl⟩;have j:=I.laid (a:=s.heap.objs.size) (o:= .own (s.heap.objs.size+1)) (h':=s.heap.push emptyDict) (t':=s.toks) (fun b u q=>zi _ q) (ze _) ⟨_,d⟩;refine j.laid (a:=s.heap.objs.size+1) (o:= .ins C s.heap.objs.size []) (t':=s.toks) (fun b u q=>zi _ q) (uU (yk _ _)) ?_;have c:s.heap.objs.size≠s.heap.objs.size+1:=zV (yU _);refine⟨by rw[Ac c,Aa],zx _,c,i,fun Y=>none,(Heap.Ns1.of_empty h).at fun o q=>zi _ q,fun Y=>True.intro,fun y f=>absurd rfl f⟩
theorem Xk{w:World}{env:Env}{f:Str}{b:Pos}{s:Shared}(c:attributeBase e f env (eval e env)=eval e env)(h:wpAny (model prog w) A (eval e env) (fun o a=>wpAny (model prog w) A (getAttr o f true) Q E a) E s):wpAny (model prog w) A (eval (.Attribute e f b) env) Q E s:=Attribute_any_ h (by rw[arm_eval_Attribute,c])
end
inductive gR(K:Frag)(f:Str)(Q:VK)(x:V)(H1:Hp):Prop|mk(a C dx fs v:_):x= .ref a->H1 a=some (.ins C dx fs)->Rj K C->Bl K C f->fs.lookup f=some v->Q v H1->gR K f Q x H1
def Uz(K:Frag)(a:TE)(f:Str):TE:=fun σ H Q=>a σ H (gR K f Q)
inductive gY(K:Frag)(f:Str)(D:Ends)(σ:St)(y:V)(x:V)(H2:Hp):Prop|mk(a C dx fs:_):x= .ref a->H2 a=some (.ins C dx fs)->Rj K C->Bl K C f->fs.length<1000->D.nx σ (Av H2 a (.ins C dx (Bx f y fs)))->gY K f D σ y x H2
def oH(K:Frag)(b a:TE)(f:Str):TS:=fun D σ H=>a σ H fun y c=>b σ c (gY K f D σ y)
def nq(X:Cx)(c:Operator)(b:V->V->Hp->VK->Prop):Prop:=∀(a:List (Addr×Obj))(s:Shared)(σ:St)(H:Hp)(x y:V)(u v:Value)(Q:VK),As X a σ H s->AW x u->AW y v->b x y H Q->wpX X (inplaceOp c u v) (EP X a σ Q) X.xe s
def eM(K:Frag)(i h:TE)(j:V->V->Hp->VK->Prop)(f:Str):TS:=fun D σ H=>i σ H fun x g=>∃a C k d v,x= .ref a/\g a=some (.ins C k d)/\Rj K C/\Bl K C f/\d.lookup f=some v/\h σ g fun y l=>j v y l fun z e=>∃c b,e a=some (.ins C c b)/\b.length<1000/\D.nx σ (Av e a (.ins C c (Bx f z b)))
section
variable{value:Expr}{f:Str}{pos pos' tpos:Pos}{tv:TE}
theorem Al(i:PE X e ta)(j:attributeBase e f X.env (eval e X.env)=eval e X.env:=by rfl):PE X (.Attribute e f pos) (Uz X.K ta f):=by intro b s σ H Q I h;refine Xk j (Bq (i b s σ H _ I h) fun u w ⟨x,p,o,d,a,C,z,y,v,ex,k,c,n,l,q⟩=>?_);subst ex;obtain rfl:u=Value.ref a:=d;exact Nl o k c n l fun r t m g=>⟨v,p,m,g,q⟩
theorem B1(p:PE X o ta)(k:PE X value tv)(m:swapsWith value (some (.Attribute o f pos')) pos.line X.env=pure false:=by rfl):PS X (.Assign [.Attribute o f pos'] value pos) (oH X.K ta tv f):=by intro b s σ H D I h;refine tT (Bq (k b s σ H _ I h) fun u d ⟨y,z,w,e,q⟩=>Bq (p b d σ z _ w q) fun j B ⟨x,G,v,g,a,C,F,E,ex,r,c,n,l,i⟩=>?_) m;subst ex;obtain rfl:j=Value.ref a:=g;exact Mo v r c n l e fun A t=>⟨σ,_,t,i⟩
theorem DR{i:Operator}{g:V->V->Hp->VK->Prop}(J:PE X o ta)(G:PE X value tv)(d:nq X i g):PS X (.AugAssign (.Attribute o f tpos) i value pos) (eM X.K ta tv g f):=by intro b s σ H D I h;refine wpAny_AugAssign_AttributeAny (Bq (J b s σ H _ I h) fun E s1 ⟨x,T,R,t,a,C,dx,fs,v,ex,L,c,n,l,q⟩=>?_);subst ex;obtain rfl:E=Value.ref a:=t;refine Nl R L c n l fun u m Q w=>Bq (G b m σ T _ Q q) fun j k ⟨y,S,P,r,B⟩=>Bq (d b k σ S v y u j _ P w r B) fun U Z ⟨z,H3,O,p,M,K,e,F,A⟩=>?_;exact Mo O e c n F p fun W N=>⟨σ,_,N,A⟩
def oS:V->V->Hp->VK->Prop:=fun x y H Q=>∃i j,x= .int i/\y= .int j/\Q (.int (i+j)) H
theorem JV:nq X .Add oS:=by rintro a s σ H x y u v Q I c b ⟨i,j,rfl,rfl,q⟩;obtain⟨t,rfl⟩:=(show∃t,u=Value.int i t from c);obtain⟨t',rfl⟩:=(show∃t',v=Value.int j t' from b);exact PyProof.Rows.iadd_int ⟨.int (i+j),H,I.tok _,⟨_,rfl⟩,q⟩
end
section
variable{σ:St}{H:Hp}{c:Value}{b:Bool}
end
structure AV(k:Nat)(A:Around):Prop where
 hd:A.handled=none
 dp:A.depth+3*k+5<recursionLimit
 un:A.units+16*k+200<cLine
theorem AV.mono{j k:Nat}(r:AV k A)(h:j<=k):AV j A:=⟨r.hd,by have:=r.dp;lia,by have:=r.un;lia⟩
theorem AV.deeper{k:Nat}(r:AV (k+1) A)(env:Env):AV k (A.deeper env):=⟨r.hd,by have:=r.dp;show A.depth+1+3*k+5<_;lia,by have:=r.un;show A.units+3+16*k+200<_;lia⟩
theorem AV.in1{k:Nat}(r:AV (k+1) A):AV k A.in1:=⟨r.hd,by have:=r.dp;show A.depth+3*k+5<_;lia,by have:=r.un;show A.units+1+16*k+200<_;lia⟩
theorem MQ{a:List (Str×Value)}:(A.under (.builtin "type.__call__" ⟨.ref C::us,a⟩)).depth=A.depth+1:=by first|rfl|simp[Around.under,Code.weight,Code.isCreation,Code.isGuard,Code.isCaller,Code.frames,Code.isFrame,guardIds]
theorem MP{a:List (Str×Value)}:(A.under (.builtin "type.__call__" ⟨.ref C::us,a⟩)).units=A.units+1:=by first|rfl|simp[Around.under,Code.cUnits,Code.frames,Code.isFrame]
theorem AV.make{k:Nat}(r:AV (k+1) A)(C:Addr)(us:List Value)(a:List (Str×Value)):AV k (A.under (.builtin "type.__call__" ⟨.ref C::us,a⟩)):=⟨r.hd,by have:=r.dp;rw[MQ];lia,by have:=r.un;rw[MP];lia⟩
theorem AV.depth{k:Nat}(r:AV k A):A.depth<recursionLimit:=by have:=r.dp;lia
theorem AV.units{k:Nat}(r:AV k A):A.units+64<cLine:=by have:=r.un;lia
def B_:TA:=fun Y H Q=>Q [] H
def Bc(b:TE)(a:TA):TA:=fun σ H Q=>b σ H fun x d=>a σ d fun xs c=>Q (x::xs) c
section
variable{te:TE}{t:TA}{pos:Pos}
theorem Cd:PA X [] B_:=fun Y Y Y Y H Q I h=>tQ ⟨[],H,I,.nil,h⟩
theorem nI(l:PE X e te)(k:PA X es t)(j:starEach (e::es) X.env=(false,eval e X.env)::starEach es X.env:=by rfl):PA X (e::es) (Bc te t):=by intro b a s σ H Q I h;rw[j];show wpAny _ _ (spliced ((false,eval e X.env)::backTo b (starEach es X.env))) _ _ s;refine vX (Bq (l a s σ H _ I h) fun u c ⟨x,p,n,f,i⟩=>?_);exact Bq (k b a c σ p _ n i) fun us q ⟨xs,o,m,d,g⟩=>⟨x::xs,o,m,.cons f d,g⟩
def Xz(t:TA):TE:=fun σ H Q=>t σ H fun xs a=>xs.length<=sizeLine/\∀p,a p=none->Q (.ref p) (Av a p (.tup xs))
def iT(t:TA):TE:=fun σ H Q=>t σ H fun xs a=>xs.length<=sizeLine/\∀p,a p=none->Q (.ref p) (Av a p (.lst xs))
theorem B2{g}(h:PA X es t):PE X (.Tuple es g pos) (Xz t):=by intro a s σ H Q I i;refine wpAny_Tuple_spliced (Bq (h pos a s σ H _ I i) fun us c ⟨xs,f,d,r,z,q⟩=>⟨by rw[<-r.length];exact z,?_⟩);have j:f c.heap.objs.size=none:=d.Bw.fresh (ze _);refine⟨.ref c.heap.objs.size,Av f c.heap.objs.size (.tup xs),d.laid (t':=c.toks) (fun b u e=>zi _ e) (ze _) ?_,rfl,q _ j⟩;exact⟨z,us,r,⟨_,zM _ rfl,rfl,_,rfl⟩⟩
theorem AE(h:PA X es t):PE X (.List es pos) (iT t):=by intro a s σ H Q I g;refine wpAny_List_spliced (Bq (h pos a s σ H _ I g) fun us c ⟨xs,f,d,r,z,q⟩=>⟨by rw[<-r.length];exact z,?_⟩);have i:f c.heap.objs.size=none:=d.Bw.fresh (ze _);refine⟨.ref c.heap.objs.size,Av f c.heap.objs.size (.lst xs),d.laid (t':=c.toks) (fun b u e=>zi _ e) (ze _) ?_,rfl,q _ i⟩;exact⟨z,us,0,r,zM _ rfl⟩
end
abbrev Sp:=List V->Hp->VK->XK->Prop
abbrev Ib:=List Env->Hp->Shared->XK->Value->Shared->Prop
structure Rb(P:Program)(w:World)(K:Frag)(mg:Str->Option Value)(base:Heap)(A:Around)(outer:List Env)(s:Shared)(H:Hp):Prop where
 frames:A.frames=some outer
 mod:Mod K mg base
 bs:∀b o,base.get? b=some o->s.heap.get? b=some o/\H b=none
 Zg:base.objs.size<=s.heap.objs.size
 HU:s.heap.FunFrames base outer
 dE:∀b∈Nm outer,H b=none
 Bw:FL P w H s.heap
 bare:AllBare s.gens
def CE(outer:List Env)(P:Program)(w:World)(H:Hp)(s:Shared)(Q:VK)(u:Value)(a:Shared):Prop:=∃v b,a.os=s.os/\AllBare a.gens/\Un (Nm outer) [] H b s.heap a.heap/\FL P w b a.heap/\AW v u/\Q v b
def CR(b:Ib)(outer:List Env)(P:Program)(w:World)(H:Hp)(s:Shared)(Q:VK)(E:XK)(r:Result)(a:Shared):Prop:=match r with| .ok (.ret u)=>CE outer P w H s Q u a| .ok _=>False| .error e=>b outer H s E e a
structure D9(P:Program)(w:World)(K:Frag)(mg:Str->Option Value)(base:Heap)(CX:Ib)(k:Nat)(f:Addr)(fd:FuncData)(ps:List Str)(sp:Sp):Prop where
 len:∀vs H Q E,sp vs H Q E->vs.length=ps.length
 run:∀(A:Around)(outer:List Env)(s:Shared)(H:Hp)(args:Args)(us:List Value)(vs:List V)(Q:VK)(E:XK),AV k A->Rb P w K mg base A outer s H->BindsTo s fd args (ps.zip us)->AF vs us->sp vs H Q E->codeAny (model P w) A (.call (.ref f) args) (CR CX outer P w H s Q E) s
theorem D9.mono{P:Program}{w:World}{K:Frag}{mg:Str->Option Value}{base:Heap}{b:Ib}{j k:Nat}{f:Addr}{a:Sp}(F:D9 P w K mg base b j f fd ps a)(h:j<=k):D9 P w K mg base b k f fd ps a:=⟨F.len,fun A outer s H args us c Q E d=>F.run A outer s H args us c Q E (d.mono h)⟩
theorem Rb.make{P:Program}{w:World}{K:Frag}{mg:Str->Option Value}{base:Heap}{outer:List Env}{H:Hp}(e:Rb P w K mg base A outer s H)(C:Addr)(us:List Value)(a:List (Str×Value)):Rb P w K mg base (A.under (.builtin "type.__call__" ⟨.ref C::us,a⟩)) outer s H:=⟨by first|exact e.frames|(simpa[Around.under,Code.envs,Code.isFrame,pushEnvs]using e.frames),e.mod,e.bs,e.Zg,e.HU,e.dE,e.Bw,e.bare⟩
section
variable{σ:St}{H:Hp}{s':Shared}
theorem As.gi(I:As X pins σ H s):Rb X.prog X.w X.K X.mg X.base X.A X.stack s H:=⟨I.ok.frames,I.ok.mod,I.bs,z_ I.ok.Zg I.sz,I.stack,I.PV,I.Bw,I.bare⟩
theorem As.after{Q:VK}(I:As X pins σ H s)(h:CE X.stack X.prog X.w H s Q u s'):EP X pins σ Q u s':=by obtain⟨v,j,os,a,f,e,r,q⟩:=h;obtain⟨i,g,d,t,c⟩:=s';obtain rfl:c=s.os:=os;exact⟨v,j,I.call (h':=i) (g':=g) (d':=d) (t':=t) (ch:=[]) f e a (fun b z=>absurd z (by simp)),r,q⟩
end
def Kr(c:Sp)(a:List V)(E:XK)(t:TA):TE:=fun σ H Q=>t σ H fun b d=>c (b++a) d Q E
inductive Zp(C:Addr)(m:Str)(sp:Sp)(dvs:List V)(E:XK)(t:TA)(σ:St)(Q:VK)(x:V)(H1:Hp):Prop|mk(a dx fs:_):x= .ref a->H1 a=some (.ins C dx fs)->fs.lookup m=none->(t σ H1 fun vs H2=>sp (x::(vs++dvs)) H2 Q E)->Zp C m sp dvs E t σ Q x H1
def DF(C:Addr)(m:Str)(c:Sp)(a:List V)(E:XK)(b:TE)(t:TA):TE:=fun σ H Q=>b σ H (Zp C m c a E t σ Q)
def VV(C:Addr)(e:Sp)(b:List V)(E:XK)(t:TA):TE:=fun σ H Q=>t σ H fun d c=>∀x a,c x=none->c a=none->a≠x->e (.ref x::(d++b)) (Av (Av c a (.own x)) x (.ins C a [])) (fun v f=>v= .Bz/\Q (.ref x) f) E
def Bm(K:Frag)(fd:FuncData)(ps:List Str)(a:List Value):Prop:=∀(s:Shared)(us:List Value),K.In s.heap->(us++a).length=ps.length->BindsTo s fd ⟨us,[]⟩ (ps.zip (us++a))
theorem Bm.all{K:Frag}(h:∀us:List Value,us.length=ps.length->bindArgs fd ⟨us,[]⟩=pure (ps.zip us)):Bm K fd ps []:=fun s us Y a=>by rw[zR]at a|-;exact .of_eq (h us a)
def Cy(c:Ib)(X:Cx)(E:XK):Prop:=∀(a:List (Addr×Obj))(σ:St)(H:Hp)(s:Shared)(e:Value)(b:Shared),As X a σ H s->c X.stack H s E e b->X.xe e b
section
variable{CX:Ib}{k:Nat}{f:Addr}{sp:Sp}{dvs:List V}{ds:List Value}{E:XK}{m:Str}{p pos:Pos}{t:TA}
theorem UG{a:List (Addr×Obj)}{σ:St}{H:Hp}{Q:VK}{vs:List V}(F:D9 X.prog X.w X.K X.mg X.base CX k f fd ps sp)(i:AV k X.A)(m:Bm X.K fd ps ds)(l:AF dvs ds)(g:Cy CX X E)(I:As X a σ H s)(r:AF vs us)(h:sp (vs++dvs) H Q E):wpX X (call (.ref f) us) (EP X a σ Q) X.xe s:=by
 have c:AF (vs++dvs) (us++ds):=r.append l;have j:(us++ds).length=ps.length:=by rw[<-c.length];exact F.len _ _ _ _ h
 refine vd (wZ (F.run X.A X.stack s H ⟨us,[]⟩ (us++ds) (vs++dvs) Q E i I.gi (m s us I.Gp j) c h) fun r d b=>?_);cases r with|error e=>exact g a σ H s e d I b|ok n=>cases n with|ret u=>exact I.after b|next=>exact False.elim b|brk=>exact False.elim b|cont=>exact False.elim b
theorem Qn(F:D9 X.prog X.w X.K X.mg X.base CX k f fd ps sp)(i:AV k X.A)(m:Gl X x)(j:X.mg x=some (.ref f))(l:keepIn X.K (.ref f)=true)(u:Bm X.K fd ps ds)(o:AF dvs ds)(g:Cy CX X E)(v:PA X (e::es) t)(c:(x==("__debug__":Str))=false:=by decide)(n:starEach (e::es) X.env=(false,eval e X.env)::starEach es X.env:=by rfl)(b:(backTo pos (starEach es X.env)).any (·.1)=false:=by rfl):PE X (.Call (.Name x p) (e::es) [] pos) (Kr sp dvs E t):=by intro a s σ H Q I h;refine yX (DL I m j ?_ c);refine xO (h₀:=X.base) I.ok.mod.dD l (Bq (v pos a s σ H _ I h) fun us y ⟨w,z,d,r,q⟩=>⟨d.Gp,?_⟩) n b;exact UG F i u o g d r q
theorem II(D:PE X o ta)(c:Rj X.K C)(j:N6 X.K C m f)(F:D9 X.prog X.w X.K X.mg X.base CX k f fd ps sp)(B:AV k X.A)(J:Bm X.K fd ps ds)(G:AF dvs ds)(z:Cy CX X E)(K:PA X (e::es) t)(d:starEach (e::es) X.env=(false,eval e X.env)::starEach es X.env:=by rfl)(g:(backTo pos (starEach es X.env)).any (·.1)=false:=by rfl)(A:eval (.Call (.Attribute o m apos) (e::es) [] pos) X.env=(do
 let ov<-eval o X.env
 standAt apos.atName
 let(f,first)<-holding [ov] (getMethod ov m pl)
 callWith pos f first (backTo pos (starEach (e::es) X.env)) (backToKw pos (keywordEach [] X.env))):=by rfl):PE X (.Call (.Attribute o m apos) (e::es) [] pos) (DF C m sp dvs E ta t):=by intro b s σ H Q I h;refine wR (pl:=pl) (Bq (D b s σ H _ I h) fun u v ⟨x,M,p,w,a,P,O,ex,L,l,q⟩=>?_) A;subst ex;obtain rfl:u=Value.ref a:=w;refine Nk p L c j l ?_;refine xO (first:=[.ref a]) (h₀:=X.base) I.ok.mod.dD j.kp (Bq (K pos b v σ M _ p q) fun us N ⟨i,R,n,r,y⟩=>⟨n.Gp,?_⟩) d g;exact UG (us:= .ref a::us) (vs:= .ref a::i) F B J G z n (.cons rfl r) y
theorem ES(p:PE X o ta)(c:Rj X.K C)(e:N6 X.K C m f)(F:D9 X.prog X.w X.K X.mg X.base CX k f fd ps sp)(n:AV k X.A)(t:Bm X.K fd ps ds)(r:AF dvs ds)(i:Cy CX X E)(j:eval (.Call (.Attribute o m apos) [] [] pos) X.env=(do
 let ov<-eval o X.env
 standAt apos.atName
 let(f,first)<-holding [ov] (getMethod ov m pl)
 callWith pos f first (backTo pos (starEach [] X.env)) (backToKw pos (keywordEach [] X.env))):=by rfl):PE X (.Call (.Attribute o m apos) [] [] pos) (DF C m sp dvs E ta B_):=by intro b s σ H Q I h;refine wR (pl:=pl) (Bq (p b s σ H _ I h) fun u w ⟨x,A,d,g,a,z,y,ex,v,l,q⟩=>?_) j;subst ex;obtain rfl:u=Value.ref a:=g;refine Nk d v c e l ?_;exact uB (first:=[.ref a]) d.Gp e.kp (UG (us:=[.ref a]) (vs:=[.ref a]) F n t r i d (.cons rfl .nil) q)
structure Mk(K:Frag)(C f:Addr):Prop where
 makes:makesIn K C=true
 init:findIn K (.ref C) "__init__"=some (some (.ref f))
 fn:isFn K (.ref f)=true
 kp:keepIn K (.ref C)=true
theorem RU{a:List (Addr×Obj)}{σ:St}{H:Hp}{Q:VK}{g:List V}(M:Mk X.K C f)(F:D9 X.prog X.w X.K X.mg X.base CX k f fd ps sp)(p:AV (k+1) X.A)(w:Bm X.K fd ps ds)(t:AF dvs ds)(o:Cy CX X E)(I:As X a σ H s)(r:AF g us)(h:∀x c,H x=none->H c=none->c≠x->sp (.ref x::(g++dvs)) (Av (Av H c (.own x)) x (.ins C c [])) (fun v B=>v= .Bz/\Q (.ref x) B) E):wpX X (call (.ref C) us) (EP X a σ Q) X.xe s:=by
 have j:=h (s.heap.objs.size+1) s.heap.objs.size (I.Bw.fresh (wG _)) (I.Bw.fresh (ze _)) (zV (yU _));have d:=As.made (C:=C) I;have i:AF (V.ref (s.heap.objs.size+1)::(g++dvs)) (Value.ref (s.heap.objs.size+1)::(us++ds)):= .cons rfl (r.append t);have q:(Value.ref (s.heap.objs.size+1)::us++ds).length=ps.length:=by have e:=i.length;rw[F.len _ _ _ _ j]at e;exact e.symm
 refine vd (bG (f:=f) I.Gp M.makes M.init (zP.mp M.fn) (wZ (F.run _ X.stack _ _ ⟨Value.ref (s.heap.objs.size+1)::us,[]⟩ (Value.ref (s.heap.objs.size+1)::(us++ds)) _ _ E (p.make C us []) (d.gi.make C us []) (w _ (Value.ref (s.heap.objs.size+1)::us) d.Gp q) i j) fun r l b=>?_));cases r with|error e=>exact o a σ _ _ e l d b|ok y=>cases y with|ret u=>obtain⟨v,D,A,m,z,n⟩:=d.after b;subst z;exact⟨m,⟨V.ref (s.heap.objs.size+1),D,A,rfl,n⟩⟩ |next=>exact False.elim b|brk=>exact False.elim b|cont=>exact False.elim b
theorem fe(M:Mk X.K C f)(F:D9 X.prog X.w X.K X.mg X.base CX k f fd ps sp)(i:AV (k+1) X.A)(l:Gl X x)(j:X.mg x=some (.ref C))(o:Bm X.K fd ps ds)(n:AF dvs ds)(g:Cy CX X E)(u:PA X (e::es) t)(c:(x==("__debug__":Str))=false:=by decide)(m:starEach (e::es) X.env=(false,eval e X.env)::starEach es X.env:=by rfl)(b:(backTo pos (starEach es X.env)).any (·.1)=false:=by rfl):PE X (.Call (.Name x p) (e::es) [] pos) (VV C sp dvs E t):=by intro a s σ H Q I h;refine yX (DL I l j ?_ c);refine xO (h₀:=X.base) I.ok.mod.dD M.kp (Bq (u pos a s σ H _ I h) fun us w ⟨v,y,d,r,q⟩=>⟨d.Gp,?_⟩) m b;exact RU M F i o n g d r q
theorem aJ(M:Mk X.K C f)(F:D9 X.prog X.w X.K X.mg X.base CX k f fd ps sp)(d:AV (k+1) X.A)(g:Gl X x)(e:X.mg x=some (.ref C))(j:Bm X.K fd ps ds)(i:AF dvs ds)(c:Cy CX X E)(a:(x==("__debug__":Str))=false:=by decide):PE X (.Call (.Name x p) [] [] pos) (VV C sp dvs E B_):=by intro b s σ H Q I h;refine yX (DL I g e ?_ a);exact uB I.Gp M.kp (RU (us:=[]) M F d j i c I .nil h)
end
section
variable{CX:Ib}{k:Nat}{f:Addr}{ks:List Str}{sp:Sp}{E:XK}{m:Str}{p pos kpos:Pos}{kws:List Keyword}{te:TE}{t tk:TA}{nm:Option Str}
variable{g:List Value->List Value->List Value}{gV:List V->List V->List V}
end
structure Ah(N P:List Str)(sc:Scope):Prop where
 kind:sc.kind= .function:=by rfl
 co:sc.isCoroutine=false:=by rfl
 gen:sc.isGenerator=false:=by rfl
 nd:N.Nodup:=by decide+kernel
 pre:N.take P.length=P:=by rfl
 par:∀x∈P,sc.names.lookup x=some .local\/sc.names.lookup x=some .cell:=by decide+kernel
 bq:∀y∈sc.names,y.2≠ .free:=by decide+kernel
theorem P9{b:Str->Option NameKind}:∀{a:List (Str×Value)}{m:Str->Option Value},(∀v,(x,v)∉a)->bindL b a m x=m x
|[],_,_=>rfl
|(n,v)::r,m,h=>by
 unfold bindL;rw[P9 fun w c=>h w (zg _ c)];split
 ·have:x≠n:=by rintro rfl;exact h v zh
  simp[this]
 ·rfl
theorem PB{b:Str->Option NameKind}:∀{a:List (Str×Value)}{m:Str->Option Value},(∀v,(x,v)∉a)->bindC b a m x=m x
|[],_,_=>rfl
|(n,v)::r,m,h=>by
 unfold bindC;rw[PB fun w c=>h w (zg _ c)];split;·rfl
 ·have:x≠n:=by rintro rfl;exact h v zh
  simp[this]
theorem Kn{a:Str->Option NameKind}{v:Value}:∀{P:List Str}{b:List Value}{i:Nat}{m:Str->Option Value},P.Nodup->P[i]?=some x->b[i]?=some v->a x=some .local->bindL a (P.zip b) m x=some v|[],_,_,_,_,h,_,_=>by simp at h|_::_,[],_,_,_,_,h,_=>by simp at h|p::P,w::b,0,m,e,d,c,f=>by simp at d c;subst d;subst c;show bindL a ((p,w)::P.zip b) m p=_;unfold bindL;rw[P9 fun v g=>(xV.mp e).1 (uk g).1,zc f];simp|p::P,w::b,i+1,m,e,d,c,f=>by show bindL a ((p,w)::P.zip b) m x=_;unfold bindL;exact Kn (i:=i) (xV.mp e).2 ‹d› ‹c› f
theorem Ko{a:Str->Option NameKind}{v:Value}:∀{P:List Str}{b:List Value}{i:Nat}{m:Str->Option Value},P.Nodup->P[i]?=some x->b[i]?=some v->a x≠some .local->bindC a (P.zip b) m x=some v|[],_,_,_,_,h,_,_=>by simp at h|_::_,[],_,_,_,_,h,_=>by simp at h|p::P,w::b,0,m,e,d,c,f=>by simp at d c;subst d;subst c;show bindC a ((p,w)::P.zip b) m p=_;unfold bindC;rw[PB fun v g=>(xV.mp e).1 (uk g).1,zb f];simp|p::P,w::b,i+1,m,e,d,c,f=>by show bindC a ((p,w)::P.zip b) m x=_;unfold bindC;exact Ko (i:=i) (xV.mp e).2 ‹d› ‹c› f
def start(N:List Str)(a:List V):St:=a.map some++List.replicate (N.length-a.length) none
def Jh(c:Ib)(P:Program)(w:World)(K:Frag)(mg:Str->Option Value)(base:Heap)(N:List Str)(qual:Str)(scope:Scope)(f:Addr)(b:Value)(A:Around)(outer:List Env)(s:Shared)(H:Hp)(E:XK):Cx where
 prog:=P
 w:=w
 K:=K
 mg:=mg
 base:=base
 A:=A.deeper (envOfC qual scope s.heap.objs.size f b)
 N:=N
 s_0:=s
 H_0:=H
 env:=envOfC qual scope s.heap.objs.size f b
 outer:=outer
 stack:=envOfC qual scope s.heap.objs.size f b::outer
 ex:=[]
 calm:=true
 fn:=fun Y=>true
 pn:=[]
 xe:=fun e d=>wpAny (model P w) (A.deeper (envOfC qual scope s.heap.objs.size f b)) (leaving (envOfC qual scope s.heap.objs.size f b) e) (fun Y a=>c outer H s E e a) (fun g a=>c outer H s E g a) d
theorem Jj{a:Scope}{n:Nat}(h:a.names.lookup x=some .cell):∃c,(cellsFrom n a.names []).lookup x=some c:=by have q:=ub a.names n [] (.inl h);exact tZ.mp q
theorem Yl{J:Ib}{P:Program}{w:World}{K:Frag}{mg:Str->Option Value}{base:Heap}{f:Addr}{D:Value}{outer:List Env}{F:Shared}{H:Hp}{E:XK}{j:List V}(S:Ah N ps scope)(O:A.handled=none)(g:Rb P w K mg base A outer s H)(T:j.length=ps.length)(r:AF j us)(x:InCallC s s.heap.objs.size (bindL (envOfC qual scope s.heap.objs.size f D).kindOf (ps.zip us) fun Y=>none) (cellsFrom (s.heap.objs.size+1) scope.names []) (bindC (envOfC qual scope s.heap.objs.size f D).kindOf (ps.zip us) fun Y=>none) F):As (Jh J P w K mg base N qual scope f D A outer s H E) [] (start N j) H F:=by
 have M:ps.length<=N.length:=by have:=zT List.length S.pre;rw[zO]at this;lia
 obtain⟨C,R,rfl,I⟩:=x.done;have l:∀b:Addr,b∉(Jh J P w K mg base N qual scope f D A outer s H E).ex:=fun b z=>absurd (show b∈([]:List Addr)from z) (by simp);exists⟨g.mod,S.kind,rfl,rfl,ze _,fun y z c C d=>?_,fun y m=>?_,fun y c Y h=>?_,fun Y=>O,qt g.frames,.inr ⟨rfl,rfl⟩,fun b z=>absurd z (l b),g.bs,g.Zg,fun b Y Y=>l b,fun b z=>absurd z (l b),g.HU,g.dE⟩,rfl,g.bare,Un.kept I,⟨_,x.toInCall.ns,fun i y v C d U=>?_⟩,fun y c h=>⟨_,x.cell y c h⟩,g.Bw.fresh (ze _),fun y c h=>?_,fun p t=>absurd (show p∈([]:List (Addr×Obj))from t) (by simp),g.Bw.kept I;·exact name_of_addr x.apart (zU C) (zU d)
 ·have m:scope.names.lookup y=some .cell\/scope.names.lookup y=some .free:=m;rcases m with m|m;·exact Jj m
  ·exact absurd rfl (S.bq _ (zU m))
 ·exact wj (x.above y c (zU h))
 ·have B:i<j.length:=by
   unfold start at d;by_cases B:i<j.length;·exact B
   ·rw[yC ‹B›]at d;rw[ua]at d;split at d<;>cases d
  have Q:j[i]?=some v:=by unfold start at d;rw[yr ‹B›,z7]at d;cases e:j[i]? with|none=>rw[e]at d;cases d|some a=>rw[e]at d;cases d;rfl
  obtain⟨u,G,L⟩:=r.get Q;have t:ps[i]?=some y:=by rw[<-S.pre,vM ∅];exact C
  have o:ps.Nodup:=by rw[<-S.pre];exact S.nd.sublist (rO _ _)
  exists u,L;rcases S.par y (zf t)with k|k;·exact .inl ⟨k,Kn o t G k⟩
  ·obtain⟨c,e⟩:=Jj (n:=s.heap.objs.size+1) k;refine .inr ⟨.inl k,c,e,?_⟩;have q:=x.cell y c e;rw[Ko o t G (by show scope.names.lookup y≠_;rw[k];decide)]at q;exact q
 ·exact g.Bw.fresh (wj (x.above y c (zU h)))
 ·unfold start;show _=N.length;rw[zd,z3,yF];lia
theorem ib{F:Ib}{P:Program}{w:World}{K:Frag}{mg:Str->Option Value}{base:Heap}{k:Nat}{f:Addr}{i:Str}{c:Arguments}{d:List Stmt}{dV Z D X a ct oc:Value}{an od:Option Addr}{O:Array (Option Value)}{G:Sp}(lk:K.lookup f=some ⟨oc,od,.func (fnOf i qual c d scope dV Z D X an a ct),O⟩)(U:codeIn K a qual=true)(S:Ah N ps scope)(z:∀h H Q E,G h H Q E->h.length=ps.length)(m:∀(A:Around)(outer:List Env)(s:Shared)(H:Hp)(h:List V)(Q:VK)(E:XK),AV k (A.deeper (envOfC qual scope s.heap.objs.size f a))->G h H Q E->∃t,Ri (Jh F P w K mg base N qual scope f a A outer s H E) d t/\t {nx:=fun Y j=>Q .Bz j,rt:=Q} (start N h) H):D9 P w K mg base F (k+1) f (fnOf i qual c d scope dV Z D X an a ct) ps G:=by
 refine⟨z,fun A outer s H args us h Q E T C hb r B=>?_⟩;have hl:=z _ _ _ _ B;have KX:K.In s.heap:=C.mod.dD.keeps fun b o e=>(C.bs b o e).1;have R:s.heap.NoLimit:=C.mod.nolimit.keeps fun b o e=>(C.bs b o e).1;have l:∀y∈ps.zip us,scope.names.lookup y.1=some .local\/(scope.names.lookup y.1=some .cell/\((cellsFrom (s.heap.objs.size+1) scope.names []).lookup y.1).isSome=true):=fun⟨n,v⟩ hy=>by
  rcases S.par n (uk hy).1 with q|q;·exact .inl q
  ·exact .inr ⟨q,ub _ _ _ (.inl q)⟩
 refine qc T.depth (KX _ _ lk) rfl S.co S.gen rfl (rB KX U) (hb _ _ _ _ ?_);refine sO S.kind l fun env he W x=>?_;subst he;refine⟨R.keeps x.toInCall.keep,codeAny_func ?_⟩;obtain⟨t,ht,hq⟩:=m A outer s H h Q E (T.deeper _) B;have I:As (Jh F P w K mg base N qual scope f a A outer s H E) [] (start N h) H W:=Yl S T.hd C hl r x;refine yG (ht [] W (start N h) H _ I hq) (fun fl L p=>?_) fun e L p=>p;have fin:∀{g:St}{j:Hp}{v:V}{u:Value},As (Jh F P w K mg base N qual scope f a A outer s H E) [] g j L->AW v u->Q v j->CE outer P w H s Q u L:=fun{g j v u} J M q=>⟨v,j,J.os,J.bare,J.base,J.Bw,M,q⟩;cases fl with|ret u=>obtain⟨v,g,j,J,M,q⟩:=p;exact fin J M q|next=>obtain⟨g,j,J,q⟩:=p;exact fin (v:=V.Bz) (u:=Value.none) J rfl q|brk=>obtain⟨Y,Y,Y,q⟩:=p;exact False.elim q|cont=>obtain⟨Y,Y,Y,q⟩:=p;exact False.elim q
section
variable{p pos:Pos}{t:TA}{id T:String}{r:List V->Hp->VK->Prop}
def og(r:List V->Hp->VK->Prop)(t:TA):TE:=fun σ H Q=>t σ H fun a b=>r a b Q
theorem AN(o:FG X (.builtin id) r)(l:X.mg x=none)(j:bootBuiltins x=some (.builtin id))(q:PA X (e::es) t)(m:Gl X x:=by rfl)(k:x≠"__name__":=by decide)(c:(x==("__debug__":Str))=false:=by decide)(n:starEach (e::es) X.env=(false,eval e X.env)::starEach es X.env:=by rfl)(b:(backTo pos (starEach es X.env)).any (·.1)=false:=by rfl):PE X (.Call (.Name x p) (e::es) [] pos) (og r t):=by intro a s σ H Q I h;refine yX (Gm I m l j ?_ k c);exact PyProof.Rows.callWith_builtin1 (Bq (q pos a s σ H _ I h) fun us f ⟨d,v,u,g,i⟩=>o a f σ v d us Q u g i) n b
theorem JG(o:FG X (.type T) r)(m:Gl X x)(l:X.mg x=none)(j:bootBuiltins x=some (.type T))(q:PA X (e::es) t)(k:x≠"__name__":=by decide)(c:(x==("__debug__":Str))=false:=by decide)(n:starEach (e::es) X.env=(false,eval e X.env)::starEach es X.env:=by rfl)(b:(backTo pos (starEach es X.env)).any (·.1)=false:=by rfl):PE X (.Call (.Name x p) (e::es) [] pos) (og r t):=by intro a s σ H Q I h;refine yX (Gm I m l j ?_ k c);exact yK (Bq (q pos a s σ H _ I h) fun us f ⟨d,v,u,g,i⟩=>o a f σ v d us Q u g i) n b
end
end L2
variable{pins:List (PySem.Addr×PySem.Obj)}{X:L2.Cx}{es:List PySem.Expr}{o:PySem.Expr}{apos:PySem.Pos}{ta:L2.TE}
namespace HT
open PySem PyProof.Rows
def lexLt:List Int->List Int->Bool|[],[]=>false|[],_::_=>true|_::_,[]=>false|x::xs,y::a=>if x=y then lexLt xs a else decide (x<y)
theorem lexLt_cons(x y:Int)(xs a:List Int):lexLt (x::xs) (y::a)=if x=y then lexLt xs a else decide (x<y):=rfl
theorem lexLt_nil_nil:lexLt [] []=false:=rfl
theorem lexLt_nil_cons(y:Int)(a:List Int):lexLt [] (y::a)=true:=rfl
theorem lexLt_cons_nil(x:Int)(xs:List Int):lexLt (x::xs) []=false:=rfl
theorem eqAt_int(A:Around)(s:Shared)(a:Int)(t:Tok)(c:Int)(u:Tok):∃e,SeqAt.EqAt A s (.int a t) (.int c u) e/\(e=true↔a=c):=⟨(a==c),SeqAt.EqAt.int_int a t c u,by simp⟩
theorem rcLt_int(A:Around)(s:Shared)(a:Int)(t:Tok)(c:Int)(u:Tok)(prog:Program)(w:World)(E:Value->Shared->Prop)(Q:Value->Shared->Prop)(h:Q (.bool (decide (a<c))) s):wpAny (model prog w) A (richCompare .Lt (.int a t) (.int c u)) Q E s:=(PyProof.Rows.lt_int h:wpAny (model prog w) A (compareOp .Lt (.int a t) (.int c u)) Q E s)
section
open PySem.SeqAt
open PySem.AutoSeq1 (wpAny_loadPart')
open PySem.MeetsSeq PySem.MeetsSeq2 PySem.MeetsSeq3
theorem NH(l b:Addr)(i f:Array Value)(n U:Nat)(dd O:Option Addr)(T L:Array (Option Value))(I J:List Int)(S:IntsAre i.toList I)(Q:IntsAre f.toList J):Meets (Builtin.«tuple.__lt__» ⟨[.ref l,.ref b],[]⟩) (fun Y R s=>s.heap.get? l=some {cls:= .type "tuple",dict:=dd,data:= .seq i n,slots:=T}/\s.heap.get? b=some {cls:= .type "tuple",dict:=O,data:= .seq f U,slots:=L}/\R (.ok (.ret (.bool (lexLt I J)))) s):= .of_wp fun prog w A R s h=>by
 obtain⟨K,g,d,H,os⟩:=s;obtain⟨W,Z,h⟩:=h;have f2:=AutoSeq1.sub_tuple_tuple;have z1:i.size=I.length:=by rw[<-S.length];simp
 have z2:f.size=J.length:=by rw[<-Q.length];simp
 wp_walk using wQ W,wQ Z,wpAny_forIn_list _ (fun r b M=>b.1=none/\M=⟨K,g,d,H,os⟩/\∃(G F:List Value)(k m:List Int),r=G.zip F/\IntsAre G k/\IntsAre F m/\k.length+f.size=m.length+i.size/\R (.ok (.ret (.bool (lexLt k m)))) ⟨K,g,d,H,os⟩) _;case turn=>rintro⟨y,x⟩ r b M ⟨C,rfl,G,F,k,m,o,B,p,j,z⟩;cases B with|nil=>rw[List.zip_nil_left]at o;cases o|cons a t E=>cases p with|nil=>rw[List.zip_nil_right]at o;cases o|cons c u D=>rw[rD]at o;injection o with hyx hrest;injection hyx with hy hx;subst hy hx;rw[lexLt_cons]at z;simp only[zm]at j;obtain⟨e,X,v⟩:=eqAt_int A.in1 ⟨K,g,d,H,os⟩ a t c u;refine za (X prog w _ _ ?_);cases e with|true=>rw[zc (v.mp rfl)]at z;wp_walk;exact⟨rfl,rfl,_,_,_,_,hrest,E,D,∅,z⟩ |false=>rw[zb (fun q=>absurd (v.mpr q) zQ)]at z;have N:=rcLt_int A.in1 ⟨K,g,d,H,os⟩ a t c u prog w;wp_walk using N;exact⟨_,rfl,‹z›⟩
 case fin=>
  rintro⟨b1,b2⟩ M ⟨C,rfl,G,F,k,m,o,B,p,j,z⟩;simp only at C;subst C;have P:lexLt k m=decide (i.size<f.size):=by
   cases B with
   |nil=>cases p with|nil=>simp only[yQ]at j;rw[lexLt_nil_nil];exact(zo ∅).symm|cons c u V=>simp only[yQ,zm]at j;rw[lexLt_nil_cons];exact(zj ∅).symm
   |cons a t P=>cases p with|nil=>simp only[yQ,zm]at j;rw[lexLt_cons_nil];exact(zo ∅).symm|cons c u V=>rw[rD]at o;cases o
  rw[P]at z;wp_walk;exact⟨_,rfl,by simpa[Builtin.Tuple.tupleCompareSizes]using z⟩
 case h=>exact⟨rfl,rfl,i.toList,f.toList,I,J,rfl,S,Q,∅,h⟩
end
section
variable{w:World}
theorem Ve{l:Addr}{c a:Array Value}{d e:List Int}(y:IsTup s.heap l c)(C:IsTup s.heap b a)(B:IntsAre c.toList d)(z:IntsAre a.toList e)(v:A.units<cLine)(h:Q (.bool (lexLt d e)) s):wpAny (model prog w) A (compareOp .Lt (.ref l) (.ref b)) Q E s:=by obtain⟨⟨cls,D,data,t⟩,o,q,n,p⟩:=id y;obtain⟨⟨r,k,m,j⟩,f,i,u,g⟩:=id C;simp only at q p i g;subst q p i g;exact richCompare_meets_room (op:= .Lt) ⟨_,o,rfl⟩ ⟨_,f,rfl⟩ PySem.F.slot_tuple_lt PySem.F.entry_tuple_lt (PySem.F.args_tuple_lt_2 _ _) (NH l b c a n u D k t j d e B z) ⟨o,f,show Value.bool (lexLt d e)≠Value.notImplemented/\Q (.bool (lexLt d e)) s from⟨(fun x=>nomatch x),h⟩⟩ v
def CQ(n d:Nat):Option Int->Nat|none=>d|some v=>if v<0 then(v+(n:Int)).toNat else min v.toNat n
theorem Iy(n d:Nat):CQ n d none=d:=rfl
theorem Fn(n d k:Nat):CQ n d (some (k:Int))=min k n:=by show(if(k:Int)<0 then((k:Int)+(n:Int)).toNat else min (k:Int).toNat n)=min k n;rw[zb ∅,wO]
theorem ZU(n d:Nat)(a:d<=n)(o:Option Int):CQ n d o<=n:=by
 cases o with
 |none=>exact a
 |some v=>
  show(if v<0 then(v+(n:Int)).toNat else min v.toNat n)<=n;by_cases hv:v<0;·rw[zc hv];lia
  ·rw[zb hv];exact xH _ _
end
end HT
namespace L2
open PySem PySem.Spec PyProof.Rows
abbrev TO:=St->Hp->(Option Int->Hp->Prop)->Prop
def PO(X:Cx)(e:Option Expr)(t:TO):Prop:=∀(a:List (Addr×Obj))(s:Shared)(σ:St)(H:Hp)(Q:Option Int->Hp->Prop),As X a σ H s->t σ H Q->wpX X (evalPart e X.env) (fun u c=>∃o b,As X a σ b c/\IsPart u o/\Q o b) X.xe s
def dR:TO:=fun Y H Q=>Q none H
def lB(t:TE):TO:=fun σ H Q=>t σ H fun x a=>∃i,x= .int i/\Q (some i) a
theorem intsAre_of{a:List Int}:∀{us:List Value},AF (a.map V.int) us->IntsAre us a:=by induction a with|nil=>intro us r;rw[wk]at r;cases r;exact .nil|cons n a d=>intro us r;rw[zH]at r;cases r with|cons c b=>obtain⟨t,e⟩:=c;subst e;exact .cons n t (d b)
section
variable{te:TE}{lo hi:Option Expr}{tl th:TO}{pos p2:Pos}
theorem IG:PO X none dR:=by intro a s σ H Q I h;rw[evalPart_none];exact zr ⟨none,H,I,.none,h⟩
theorem CW(h:PE X e te):PO X (some e) (lB te):=by intro a s σ H Q I d;rw[evalPart_some];refine Bq (h a s σ H _ I d) fun u j ⟨x,g,f,b,c⟩=>?_;obtain⟨i,rfl,q⟩:=c;obtain⟨t,rfl⟩:=b;exact⟨some i,g,f,.int i t,q⟩
def pI(X:Cx)(r:V->Option Int->Option Int->Hp->VK->Prop):Prop:=∀(a:List (Addr×Obj))(s:Shared)(σ:St)(H:Hp)(x:V)(v c b:Value)(e f:Option Int)(d:Addr)(Q:VK),As X a σ H s->AW x v->s.heap.IsSliceOf d c b .none->IsPart c e->IsPart b f->r x e f H Q->∃T g,typeLookup (.type T) "__getitem__"=pure (some (.builtin g))/\s.TypeIs v T/\wpX X (getItem v (.ref d)) (EP X a σ Q) X.xe s
def qN(r:V->Option Int->Option Int->Hp->VK->Prop)(te:TE)(a b:TO):TE:=fun σ H Q=>te σ H fun x e=>a σ e fun l d=>b σ d fun u c=>r x l u c Q
theorem D3{r:V->Option Int->Option Int->Hp->VK->Prop}(y:pI X r)(B:PE X e te)(z:PO X lo tl)(t:PO X hi th):PE X (.Subscript e (.Slice lo hi none p2) pos) (qN r te tl th):=by intro a s σ H Q I h;refine Subscript_ (Bq (B a s σ H _ I h) fun v j ⟨x,K,G,k,o⟩=>?_);refine wpAny_Slice (Bq (z a j σ K _ G o) fun f i ⟨l,J,F,pl,n⟩=>Bq (t a i σ J _ F n) fun d c ⟨u,g,E,p,m⟩=>?_);rw[evalPart_none];refine zr ?_;have D:As X a σ g {c with heap:=c.heap.push {cls:= .type "slice",data:= .fields #[f,d,.none]}}:=E.kept (t':=c.toks) fun b L q=>zi _ q;obtain⟨T,M,C,w,A⟩:=y a {c with heap:=c.heap.push {cls:= .type "slice",data:= .fields #[f,d,.none]}} σ g x v f d l u c.heap.objs.size Q D k (Heap.IsSliceOf.new ..) pl p m;show wpX X (subscriptTail e (.Slice lo hi none p2) v (.ref c.heap.objs.size)) (EP X a σ Q) X.xe {c with heap:=c.heap.push {cls:= .type "slice",data:= .fields #[f,d,.none]}};exact tail_any (ops:=[.ref c.heap.objs.size,v]) w C A #v[]
def QP(xs:List V)(a b:Option Int):List V:=(xs.drop (HT.CQ xs.length 0 a)).take (HT.CQ xs.length xs.length b-HT.CQ xs.length 0 a)
theorem TQ(xs:List V)(a b:Option Int):(QP xs a b).length<=xs.length:=by unfold QP;rw[zO,yI];lia
end
def fU(n:Nat)(i:Int):Option Nat:=if 0<=i then(if i<n then some i.toNat else none)else if-(n:Int)<=i then some (i+n).toNat else none
def YL{a:Type}(xs:List a)(i:Int):Option a:=(fU xs.length i).bind fun j=>xs[j]?
theorem WO{n:Nat}{i:Int}{j:Nat}(h:fU n i=some j):seqIndex? i n=some j/\j<n/\ -(n:Int)<=i/\i<n:=by
 unfold fU at h;by_cases h0:0<=i
 ·rw[zc h0]at h;by_cases h1:i<n;·rw[zc h1]at h;have e:i.toNat=j:=zt h;exact⟨by rw[si h0 h1,e],∅,∅,h1⟩
  ·rw[zb h1]at h;cases h
 ·rw[zb h0]at h;by_cases h1: -(n:Int)<=i;·rw[zc h1]at h;have e:(i+n).toNat=j:=zt h;exact⟨by rw[tP ∅ h1,e],∅,h1,∅⟩
  ·rw[zb h1]at h;cases h
theorem LC{a:Type}{xs:List a}{i:Int}{v:a}(h:YL xs i=some v):∃j,seqIndex? i xs.length=some j/\xs[j]?=some v/\j<xs.length/\ -(xs.length:Int)<=i/\i<xs.length:=by unfold YL at h;cases e:fU xs.length i with|none=>rw[e]at h;cases h|some j=>rw[e]at h;obtain⟨f,d,c,b⟩:=WO e;exact⟨j,f,h,d,c,b⟩
theorem AM{a:Type}{xs:List a}{j:Nat}{v:a}(h:xs[j]?=some v):YL xs (j:Int)=some v:=by
 have b:j<xs.length:=(z8.mp h).1;have e:fU xs.length (j:Int)=some j:=by unfold fU;rw[zc ∅,zc ∅];simp
 unfold YL;rw[e];exact h
def gE(b:Expr):Prop:=∀o i,subscripted b false o i=operate [o,i] (getItem o i)
def n_(X:Cx)(r:R2):Prop:=∀(c a:Expr)(b:List (Addr×Obj))(s:Shared)(σ:St)(H:Hp)(x y:V)(v u:Value)(Q:VK),As X b σ H s->AW x v->AW y u->r x y H Q->subscripted a false v u=operate [v,u] (getItem v u)->wpX X (subscriptTail c a v u) (EP X b σ Q) X.xe s
def YW(X:Cx)(b:String)(r:V->List V->Hp->VK->Prop):Prop:=∀(a:List (Addr×Obj))(s:Shared)(σ:St)(H:Hp)(x:V)(xs:List V)(v:Value)(us:List Value)(Q:VK),As X a σ H s->AW x v->AF xs us->r x xs H Q->wpX X (call (.builtin b) (v::us)) (EP X a σ Q) X.xe s
section
variable{a b:Expr}{tb:TE}{pos:Pos}
theorem Az{r:R2}(i:n_ X r)(k:PE X a ta)(j:PE X b tb)(g:gE b:=by exact fun Y Y=>rfl):PE X (.Subscript a b pos) (Rw r ta tb):=by intro c s σ H Q I h;exact Subscript_ (kG k j I h fun v u d x y m l f e q=>i a b c d σ m x y v u Q l f e q (g _ _))
inductive ax(K:Frag)(x:V)(y:V)(H:Hp)(Q:VK):Prop|mk(p xs i v:_):x= .ref p->y= .int i->AI K H p xs->YL xs i=some v->Q v H->ax K x y H Q
inductive aw(K:Frag)(x:V)(y:V)(H:Hp)(Q:VK):Prop|mk(p xs i v:_):x= .ref p->y= .int i->Em K H p xs->YL xs i=some v->Q v H->aw K x y H Q
inductive mu(x:V)(y:V)(H:Hp)(Q:VK):Prop|mk(z i c:_):x= .str z->y= .int i->z.length<=sizeLine->YL z.cps.toList i=some c->Q (.str ⟨#[c]⟩) H->mu x y H Q
theorem AD:n_ X (ax X.K):=by
 intro c d a s σ H x y v u Q I o n h k;obtain⟨p,xs,i,z,rfl,rfl,A,C,q⟩:=h;cases o;obtain⟨t,rfl⟩:=n;obtain⟨f,r,pl,G⟩:=I.list A;obtain⟨j,b,F,K,E,D⟩:=LC C;obtain⟨w,l,e⟩:=r.get F;have B:=r.length;have J:=Gi;have fin:EP X a σ Q w s:=⟨z,H,I,e,q⟩;by_cases h0:0<=i
 ·have g:i.toNat=j:=by rw[si h0 D]at b;exact zt b
  exact item_listR pl.isList h0 ∅ (by rw[g];simpa using l) fin k
 ·have g:(i+(f.toArray.size:Int)).toNat=j:=by rw[tP ∅ E]at b;rw[zI,<-B];exact zt b
  exact subscriptTail_builtinR (x:=w) pl.isList.typeIs slot_list_getitem.lookup (rW (Q:=fun r m=>r=w/\EP X a σ Q r m) pl.isList ∅ (by rw[zI]<;>lia) ∅ (by rw[g];simpa using l) ⟨rfl,fin⟩) k
theorem Be:n_ X (aw X.K):=by intro b c a s σ H x y v u Q I g f h l;obtain⟨p,xs,i,z,rfl,rfl,m,o,q⟩:=h;cases g;obtain⟨t,rfl⟩:=f;obtain⟨k,r,pl,D⟩:=I.tuple m;obtain⟨j,B,A,J,G,F⟩:=LC o;obtain⟨w,C,d⟩:=r.get A;have n:=r.length;have E:=Gi;have fin:EP X a σ Q w s:=⟨z,H,I,d,q⟩;exact subscriptTail_builtinR (x:=w) pl.typeIs slot_tuple_getitem.lookup (getItem_tuple (j:=j) (Q:=fun r e=>r=w/\EP X a σ Q r e) pl ∅ ∅ (by rw[zI,<-n];exact B) ‹C› ⟨rfl,fin⟩) l
theorem Eh:n_ X mu:=by
 intro a b d s σ H x y v u Q I g f h k;obtain⟨z,i,c,rfl,rfl,A,m,q⟩:=h;obtain⟨t,rfl⟩:=g;obtain⟨t',rfl⟩:=f;obtain⟨j,e,p,C,o,n⟩:=LC m;have l:z.cps.toList.length=z.length:=by simp[Str.length]
 rw[l]at e o n;have B:=Gi;exact tail_any (sQ s z t) slot_str_getitem.lookup (getItem_str (c:=c) (by have w:decide (i< -(2^63:Int))=false:=zo ∅;have r:decide (i>=2^63)=false:=zo ∅;rw[w,r,wC]) (by rw[e];simpa using p) ⟨.str ⟨#[c]⟩,H,I.tok _,⟨_,rfl⟩,q⟩) k
theorem Vc(a:List Value)(n j:Nat)(u:Value):Obj.mapSeq (·.setIfInBounds j u) {cls:= .type "list",data:= .seq a.toArray n}={cls:= .type "list",data:= .seq (a.set j u).toArray n}:=by simp[Obj.mapSeq]
theorem As.lst{b:List (Addr×Obj)}{σ:St}{H:Hp}{p:Addr}{xs:List V}(I:As X b σ H s)(h:H p=some (.lst xs)):∃(a:List Value)(n:Nat),AF xs a/\s.heap.get? p=some {cls:= .type "list",data:= .seq a.toArray n}/\xs.length<=sizeLine:=by obtain⟨z,a,n,r,e⟩:=I.Bw p _ h;exact⟨a,n,r,e,z⟩
theorem As.jJ{c:List (Addr×Obj)}{σ:St}{H:Hp}{p:Addr}{xs g:List V}{d a:List Value}{n i:Nat}{f:Obj->Obj}(I:As X c σ H s)(h:H p=some (.lst xs))(l:s.heap.get? p=some {cls:= .type "list",data:= .seq d.toArray n})(j:f {cls:= .type "list",data:= .seq d.toArray n}={cls:= .type "list",data:= .seq a.toArray i})(r:AF g a)(k:g.length<=sizeLine)(t:Nat):As X c σ (Av H p (.lst g)) {s with heap:=s.heap.update p f,toks:=t}:=by
 have e:(s.heap.update p f).get? p=some {cls:= .type "list",data:= .seq a.toArray i}:=by rw[ye f l (by rw[j]<;>rfl),j]
 refine I.write (x:=p) (e:=p) (by rw[h];trivial) (.inl rfl) (fun b u m q=>(yT _ _ (zN m)).trans q) ⟨_,e⟩ ?_;exact⟨k,a,i,r,e⟩
inductive hH(o:V)(i:V)(v:V)(H:Hp)(Q:Hp->Prop):Prop|mk(p xs k j:_):o= .ref p->i= .int k->H p=some (.lst xs)->fU xs.length k=some j->Q (Av H p (.lst (xs.set j v)))->hH o i v H Q
theorem set_list:kQ X hH:=by
 intro a s σ H o i v C D u Q I y z x h;obtain⟨p,xs,k,j,rfl,rfl,g,B,q⟩:=h;cases y;obtain⟨t,rfl⟩:=z;obtain⟨b,n,r,d,A⟩:=I.lst g;obtain⟨c,F,m,l⟩:=WO B;have e:=r.length;have E:=Gi;have w:As X a σ (Av H p (.lst (xs.set j v))) {s with heap:=s.heap.update p (Obj.mapSeq (·.setIfInBounds j u))}:=I.jJ g d (Vc b n j u) (r.set x j) (by rw[yP];exact A) s.toks;by_cases h0:0<=k
 ·have f:k.toNat=j:=by rw[si h0 l]at c;exact zt c
  exact PySem.W.ki_setAt d h0 ∅ (by rw[zI,<-e];exact l) (by rw[f];exact⟨_,w,q⟩)
 ·have f:(k+(b.toArray.size:Int)).toNat=j:=by rw[tP ∅ m]at c;rw[zI,<-e];exact zt c
  exact PySem.W.ki_setBack d ∅ (by rw[zI,<-e];exact m) ∅ (by rw[f];exact⟨_,w,q⟩)
theorem Qa(a b:Option Int)(n:Nat):(sliceBounds a b none n).1=((HT.CQ n 0 a:Nat):Int)/\(sliceBounds a b none n).2.1=((HT.CQ n n b:Nat):Int)/\(sliceBounds a b none n).2.2=1:=by
 refine⟨?_,?_,rfl⟩
 ·cases a with
  |none=>simp[sliceBounds,HT.CQ]
  |some i=>
   simp only[sliceBounds,HT.CQ,uZ,show(1:Int)>0 by decide,xj];by_cases h:i<0;·simp only[h,xj]<;>lia
   ·simp only[h,yW]<;>lia
 ·cases b with
  |none=>simp[sliceBounds,HT.CQ]
  |some i=>
   simp only[sliceBounds,HT.CQ,uZ,show(1:Int)>0 by decide,xj];by_cases h:i<0;·simp only[h,xj]<;>lia
   ·simp only[h,yW]<;>lia
theorem NJ(a:List Value)(b c:Option Int):slicePick a.toArray b c none=((a.drop (HT.CQ a.length 0 b)).take (HT.CQ a.length a.length c-HT.CQ a.length 0 b)).toArray:=by obtain⟨f,e,d⟩:=Qa b c a.toArray.size;unfold slicePick;rw[f,e,d];simp only[sliceRange_one,pick_run,zI]<;>rfl
def oM(K:Frag):V->Option Int->Option Int->Hp->VK->Prop:=fun x b c H Q=>∃a xs,x= .ref a/\AI K H a xs/\∀p,H p=none->Q (.ref p) (Av H p (.lst (QP xs b c)))
theorem dZ:pI X (oM X.K):=by intro f s σ H x v t p d e u Q I i n pl j h;obtain⟨a,xs,rfl,m,q⟩:=h;cases i;obtain⟨k,r,g,l⟩:=I.list m;have c:=r.length;exists"list",_,slot_list_getitem.lookup,g.isList.typeIs;refine wpAny_getItem_list_slice g.isList n pl j .none (by simp) ?_ (by rw[zI]<;>lia);rw[NJ,<-c];refine⟨.ref s.heap.objs.size,_,I.laid (t':=s.toks) (o:= .lst (QP xs d e)) (fun b w q=>zi _ q) (ze _) ?_,rfl,q _ (I.Bw.fresh (ze _))⟩;exact⟨z_ (TQ xs d e) l,_,0,(r.drop (HT.CQ xs.length 0 d)).take (HT.CQ xs.length xs.length e-HT.CQ xs.length 0 d),zM _ rfl⟩
def Hy:V->Bool| .Bz=>true| .bl _=>true| .int _=>true| .str _=>true|_=>false
def ic:V->V->Bool| .Bz,.Bz=>true| .bl a,.bl b=>a==b| .bl a,.int b=>(if a then 1 else 0)==b| .int a,.bl b=>a==(if b then 1 else 0) | .int a,.int b=>a==b| .str a,.str b=>a==b|_,_=>false
theorem kl{y x:V}{v:Value}(d:AW y u)(c:AW x v)(f:Hy y=true)(e:Hy x=true):SeqAt.EqAt A s u v (ic y x):=by
 cases y with
 |Bz=>cases d;cases x with|Bz=>cases c;exact SeqAt.EqAt.same _|bl b=>cases c;exact SeqAt.EqAt.none_bool b|int b=>obtain⟨t,rfl⟩:=c;exact SeqAt.EqAt.none_int b t|str b=>obtain⟨t,rfl⟩:=c;exact SeqAt.EqAt.none_str b t|_=>exact absurd (show false=true from e) zQ
 |bl a=>cases d;cases x with|Bz=>cases c;exact SeqAt.EqAt.bool_none a|bl b=>cases c;exact SeqAt.EqAt.bool_bool a b|int b=>obtain⟨t,rfl⟩:=c;exact SeqAt.EqAt.bool_int a b t|str b=>obtain⟨t,rfl⟩:=c;exact SeqAt.EqAt.bool_str a b t|_=>exact absurd (show false=true from e) zQ
 |int a=>obtain⟨t',rfl⟩:=d;cases x with|Bz=>cases c;exact SeqAt.EqAt.int_none a t'|bl b=>cases c;exact SeqAt.EqAt.int_bool a t' b|int b=>obtain⟨t,rfl⟩:=c;exact SeqAt.EqAt.int_int a t' b t|str b=>obtain⟨t,rfl⟩:=c;exact SeqAt.EqAt.int_str a t' b t|_=>exact absurd (show false=true from e) zQ
 |str a=>obtain⟨t',rfl⟩:=d;cases x with|Bz=>cases c;exact SeqAt.EqAt.str_none a t'|bl b=>cases c;exact SeqAt.EqAt.str_bool a t' b|int b=>obtain⟨t,rfl⟩:=c;exact SeqAt.EqAt.str_int a t' b t|str b=>obtain⟨t,rfl⟩:=c;exact SeqAt.EqAt.str_str a t' b t|_=>exact absurd (show false=true from e) zQ
 |_=>exact absurd (show false=true from f) zQ
def V0(x:V)(u:Value):Bool:=match u with| .none=>ic .Bz x| .bool b=>ic (.bl b) x| .int i _=>ic (.int i) x| .str z _=>ic (.str z) x|_=>false
theorem cH{x y:V}(r:AW y u)(f:Hy y=true):V0 x u=ic y x:=by cases y with|Bz=>cases r;rfl|bl b=>cases r;rfl|int i=>obtain⟨t,rfl⟩:=r;rfl|str z=>obtain⟨t,rfl⟩:=r;rfl|_=>exact absurd (show false=true from f) zQ
theorem Jo{x:V}:∀{xs:List V}{us:List Value},AF xs us->xs.all Hy=true->us.any (V0 x)=xs.any fun y=>ic y x|_,_,.nil,_=>rfl|y::xs,u::us,.cons r t,f=>by rw[wY,zp]at f;rw[vO,vO,cH r f.1,Jo t f.2]
theorem Gc{x:V}{v:Value}(b:AW x v)(c:Hy x=true):∀{xs:List V}{us:List Value},AF xs us->xs.all Hy=true->∀u∈us,SeqAt.EqAt A s u v (V0 x u)
|_,_,.nil,_=>fun u a=>by cases a
|y::xs,u::us,.cons r t,f=>fun d a=>by
 rw[wY,zp]at f;rcases zw.mp a with rfl|a;·rw[cH r f.1];exact kl r b f.1 c
 ·exact Gc b c t f.2 d a
def NA(x:V)(xs:List V):Bool:=xs.any fun y=>ic y x
def oP(K:Frag)(a:Bool):R2:=fun x y H Q=>∃p xs,y= .ref p/\(AI K H p xs\/Em K H p xs)/\Hy x=true/\xs.all Hy=true/\Q (.bl (if a then !NA x xs else NA x xs)) H
theorem EU:Ia X (compareOp .In) (oP X.K false):=by
 intro f s σ H x y v u Q I e i h;obtain⟨p,xs,rfl,b,g,c,q⟩:=h;cases i;rcases b with b|b;·obtain⟨a,r,pl,j⟩:=I.list b;refine SeqAt.in_listAt (V0 x) pl.isList (fun w d=>Gc e g r c w ‹d›) ⟨.bl _,H,I,rfl,?_⟩;rw[show a.toArray.any (V0 x)=a.any (V0 x) by simp,Jo r c];exact q
 ·obtain⟨a,r,pl,j⟩:=I.tuple b;refine SeqAt.in_tupleAt (V0 x) pl (fun w d=>Gc e g r c w ‹d›) ⟨.bl _,H,I,rfl,?_⟩;rw[show a.toArray.any (V0 x)=a.any (V0 x) by simp,Jo r c];exact q
theorem Qp:Ia X (compareOp .NotIn) (oP X.K true):=by
 intro f s σ H x y v u Q I e i h;obtain⟨p,xs,rfl,b,g,c,q⟩:=h;cases i;rcases b with b|b;·obtain⟨a,r,pl,j⟩:=I.list b;refine SeqAt.notIn_listAt (V0 x) pl.isList (fun w d=>Gc e g r c w ‹d›) ⟨.bl _,H,I,rfl,?_⟩;rw[show a.toArray.any (V0 x)=a.any (V0 x) by simp,Jo r c];exact q
 ·obtain⟨a,r,pl,j⟩:=I.tuple b;refine SeqAt.notIn_tupleAt (V0 x) pl (fun w d=>Gc e g r c w ‹d›) ⟨.bl _,H,I,rfl,?_⟩;rw[show a.toArray.any (V0 x)=a.any (V0 x) by simp,Jo r c];exact q
theorem AU:FG X (.builtin "len") (fun xs H Q=>∃p b,xs=[.ref p]/\(AI X.K H p b\/Em X.K H p b)/\Q (.int b.length) H):=by
 intro f s σ H xs us Q I r h;obtain⟨p,b,rfl,c,q⟩:=h;obtain⟨u,rfl,g⟩:=vals1 r;cases g;have j:=Gi;rcases c with c|c;·obtain⟨e,d,pl,i⟩:=I.list c;have a:=d.length;exact Calls.call_len_list pl.isList (by simp only[zI]<;>lia) ⟨.int b.length,H,I.tok _,⟨s.toks+1,by rw[zI,a]⟩,q⟩
 ·obtain⟨e,d,pl,i⟩:=I.tuple c;have a:=d.length;exact len_tuple pl (by simp only[zI]<;>lia) ⟨.int b.length,H,I.tok _,⟨s.toks+1,by rw[zI,a]⟩,q⟩
theorem DP:FG X (.builtin "len") (fun xs H Q=>∃z,xs=[.str z]/\z.length<=sizeLine/\Q (.int z.length) H):=by intro a s σ H xs us Q I r h;obtain⟨z,rfl,b,q⟩:=h;obtain⟨u,rfl,t,rfl⟩:=vals1 r;have c:=Gi;exact len_str ∅ ⟨.int z.length,H,I.tok _,⟨_,rfl⟩,q⟩
def pT(K:Frag)(T:String)(x:V)(H:Hp):Prop:=match x with| .str _=>T="str"| .int _=>T="int"| .ref p=>(T="list"/\∃xs,AI K H p xs)\/(T="tuple"/\∃o,K.lookup p=some o/\o.cls= .type "tuple"/\o.dict=none)\/(T="dict"/\((∃a,H p=some (.dK a))\/∃a,H p=some (.dT a)))\/(T="set"/\∃S n,H p=some (.set S n)) |_=>False
theorem iL{d:List (Addr×Obj)}{σ:St}{H:Hp}{T:String}{x:V}{v:Value}(I:As X d σ H s)(r:AW x v)(f:pT X.K T x H):s.TypeIs v T/\∀a,v= .ref a->∃k,s.heap.get? a=some k/\k.dict=none:=by
 cases x with
 |str z=>obtain⟨t,rfl⟩:=r;cases(show T="str"from f);exact⟨sQ s z t,fun Y e=>nomatch e⟩
 |int i=>obtain⟨t,rfl⟩:=r;cases(show T="int"from f);exact⟨typeIs_int s i t,fun Y e=>nomatch e⟩
 |ref p=>
  cases r;rcases f with⟨rfl,xs,m⟩ |⟨rfl,o,b,q,h⟩ |⟨rfl,b⟩ |⟨rfl,S,n,b⟩;·obtain⟨l,Y,pl,Y⟩:=I.list m;refine⟨pl.isList.typeIs,fun a e=>?_⟩;cases e;obtain⟨o,n,e,c,h,Y⟩:=pl;exact⟨o,e,h⟩
  ·refine⟨⟨o,I.Gp p o b,q⟩,fun a e=>?_⟩;cases e;exact⟨o,I.Gp _ o b,h⟩
  ·have z:∃o,s.heap.get? p=some o/\o.ExactDict:=by
    rcases b with⟨g,b⟩ |⟨g,b⟩;·obtain⟨Y,Y,Y,Y,o,Y,Y,e,ex,Y⟩:=I.Bw p _ b;exact⟨o,e,ex⟩
    ·obtain⟨Y,Y,Y,Y,o,Y,Y,e,ex,Y⟩:=I.Bw p _ b;exact⟨o,e,ex⟩
   obtain⟨o,e,ex⟩:=z;refine⟨⟨o,e,ex.1⟩,fun a j=>?_⟩;cases j;exact⟨o,e,ex.2.1⟩
  ·obtain⟨o,Y,Y,Y,e,ex,Y⟩:=I.Bw p _ b;refine⟨⟨o,e,ex.1⟩,fun a j=>?_⟩;cases j;exact⟨o,e,ex.2.1⟩
 |_=>exact False.elim f
def pW(K:Frag)(T:String)(r:V->List V->Hp->VK->Prop)(b:TE)(t:TA):TE:=fun σ H Q=>b σ H fun x a=>pT K T x a/\t σ a fun xs c=>r x xs c Q
variable{to:TE}{t:TA}{name:Str}{cpos:Pos}{T id:String}{r:V->List V->Hp->VK->Prop}
theorem B4(y:PlainAttrs T)(slot:Slot T name id)(g:typeOf (.builtin id)=pure (.type "method_descriptor"))(B:YW X id r)(A:PE X o to)(C:PA X (e::es) t)(d:attributeBase o name X.env (eval o X.env)=eval o X.env:=by rfl)(f:((backTo cpos (starEach (e::es) X.env)).all (fun x=>!x.1)&&(backToKw cpos (keywordEach [] X.env)).all (fun x=>x.1.isSome)&&decide ((e::es).length+([]:List Keyword).length+(if([]:List Keyword).isEmpty then 0 else 1)<30))=true:=by rfl)(c:(apos.endLine==cpos.line)=true:=by rfl)(z:starEach (e::es) X.env=(false,eval e X.env)::starEach es X.env:=by rfl)(b:(backTo cpos (starEach es X.env)).any (·.1)=false:=by rfl):PE X (.Call (.Attribute o name apos) (e::es) [] cpos) (pW X.K T r to t):=by intro a s σ H Q I h;refine wpAny_Call_method_late d f c rfl (Bq (A a s σ H _ I h) fun v p ⟨x,J,k,i,m,w⟩=>?_);obtain⟨E,D⟩:=iL k i m;exists T,id,y,slot,g,E,D;have j:=C cpos a p σ J _ k w;rw[z]at j|-;refine uC (by show(false||(backTo cpos (starEach es X.env)).any (·.1))=false;rw[b]<;>rfl) (qr ?_);exact Bq j fun us n ⟨l,G,F,q,u⟩=>B a n σ G x l v us Q F i q u
end
def qI(X:Cx)(b:String)(r:V->List V->Hp->VK->Prop):Prop:=∀(a:List (Addr×Obj))(s:Shared)(σ:St)(H:Hp)(x:V)(xs:List V)(v:Value)(us:List Value)(Q:VK),As X a σ H s->AW x v->AF xs us->r x xs H Q->wpX X (call (.builtin b) (v::us)) (EP X a σ Q) X.xe s
theorem AF.one:∀{x:V}{us:List Value},AF [x] us->∃u,us=[u]/\AW x u|_,_,.cons r .nil=>⟨_,rfl,r⟩
theorem AF.rep{xs:List V}(h:AF xs us):∀k:Nat,AF (List.replicate k xs).flatten (List.replicate k us).flatten|0=> .nil|k+1=>by rw[yO,yO,y_,y_];exact AF.append h (AF.rep h k)
theorem foldl_rep(a:List Value):∀(k:Nat)(b:List Value),List.foldl (fun d c=>d++c) b.toArray (List.replicate k a.toArray)=(b++(List.replicate k a).flatten).toArray
|0,b=>by simp
|k+1,b=>by
 have e:b.toArray++a.toArray=(b++a).toArray:=by simp
 have f:(b++a)++(List.replicate k a).flatten=b++(List.replicate (k+1) a).flatten:=by rw[yO,y_,zX]
 rw[<-f,<-foldl_rep a k (b++a),<-e,yO,ym]
section
variable{σ:St}{H:Hp}{l:Addr}{xs ys zs:List V}
theorem As.m9{a its':List Value}{n:Nat}{f:Array Value->Array Value}(I:As X pins σ H s)(i:H l=some (.lst xs))(e:s.heap.get? l=some {cls:= .type "list",data:= .seq a.toArray n})(g:f a.toArray=its'.toArray)(c:AF ys its')(b:ys.length<=sizeLine):As X pins σ (Av H l (.lst ys)) {s with heap:=s.heap.update l (Obj.mapSeq f),toks:=t'}:=by have q:=PySem.IsL.update e f;rw[g]at q;refine I.write (x:=l) (e:=l) (by rw[i];exact we) (.inl rfl) (fun j u h d=>(yT s.heap (Obj.mapSeq f) (zN h)).trans d) ⟨_,q⟩ ?_;exact⟨b,its',_,c,q⟩
theorem As.mC{a:List Value}(I:As X pins σ H s)(c:AF ys a)(b:ys.length<=sizeLine):As X pins σ (Av H s.heap.objs.size (.lst ys)) {s with heap:=s.heap.push {cls:= .type "list",data:= .seq a.toArray},toks:=t'}:=I.laid (fun Y Y q=>zi _ q) (ze _) ⟨b,a,0,c,zM _ rfl⟩
theorem As.fresh(I:As X pins σ H s):H s.heap.objs.size=none:=I.Bw.fresh (ze _)
theorem As.Yg(I:As X pins σ H s)(b:H l=some (.lst xs)):xs.length<=sizeLine/\∃(a:List Value)(n:Nat),AF xs a/\xs.length=a.length/\s.heap.get? l=some {cls:= .type "list",data:= .seq a.toArray n}:=by obtain⟨z,a,n,r,e⟩:=I.Bw l _ b;exact⟨z,a,n,r,r.length,e⟩
theorem Sq{n:Nat}(h:n<=sizeLine):Builtin.List.listTooLong n=false:=by unfold Builtin.List.listTooLong;exact zo ∅
end
inductive W6(x:V)(vs:List V)(H:Hp)(Q:VK):Prop|mk(l xs y:_):x= .ref l->vs=[y]->H l=some (.lst xs)->xs.length<sizeLine->Q .Bz (Av H l (.lst (xs++[y])))->W6 x vs H Q
theorem By:qI X "list.append" W6:=by intro b s σ H x i v us Q I d f h;obtain⟨l,xs,y,rfl,rfl,c,j,q⟩:=h;cases d;obtain⟨u,rfl,g⟩:=f.one;obtain⟨z,a,n,r,k,e⟩:=I.Yg c;refine tF zW ⟨_,e,rfl⟩ F.entry_list_append (F.args_list_append_2 _ _) (PySem.list_append l a.toArray n u (by rw[zI];lia)) ⟨e,?_⟩;refine⟨.Bz,_,I.m9 (its':=a++[u]) c e (by simp) (r.append (.cons g .nil)) ?_,rfl,q⟩;rw[zd,List.length_singleton];lia
def eZ:V->List V->Hp->VK->Prop:=fun x c H Q=>∃l b xs a,x= .ref l/\c=[.ref b]/\H l=some (.lst xs)/\H b=some (.lst a)/\xs.length+a.length<=sizeLine/\Q .Bz (Av H l (.lst (xs++a)))
theorem GO:qI X "list.extend" eZ:=by
 intro g s σ H x C v us Q I j k h;obtain⟨l,b,xs,A,rfl,rfl,i,w,D,q⟩:=h;cases j;obtain⟨u,rfl,m⟩:=k.one;cases m;obtain⟨z,c,n,r,E,e⟩:=I.Yg i;obtain⟨B,a,p,o,t,y⟩:=I.Yg w;have f:c.toArray.size+a.toArray.size<=sizeLine:=by rw[zI,zI];lia
 have d:¬(!c.toArray.isEmpty&&Builtin.List.listTooLong (c.toArray.size+a.toArray.size))=true:=by rw[Sq f,vm];exact zQ
 refine tF xN ⟨_,e,rfl⟩ F.entry_list_extend (F.args_list_extend_2 _ _) (AutoSeq1.list_extend_list_list_0 l c.toArray n b a.toArray p d (by rw[zI];lia) ∅) ⟨e,y,?_⟩;refine⟨.Bz,_,I.m9 (its':=c++a) i e (by simp) (r.append o) ?_,rfl,q⟩;rw[zd];lia
def jx:R2:=fun x y H Q=>∃l b xs a,x= .ref l/\y= .ref b/\H l=some (.lst xs)/\H b=some (.lst a)/\xs.length+a.length<=sizeLine/\∀p,H p=none->Q (.ref p) (Av H p (.lst (xs++a)))
theorem Ed:Ia X (binaryOp .Add) jx:=by
 intro d s σ H x y v u Q I g f h;obtain⟨l,b,xs,t,rfl,rfl,k,m,B,q⟩:=h;cases g;cases f;obtain⟨z,c,n,r,C,e⟩:=I.Yg k;obtain⟨w,a,A,i,j,p⟩:=I.Yg m;refine PySem.P.add_list e p ?_ (by rw[zI,zI];lia);have o:c.toArray++a.toArray=(c++a).toArray:=by simp
 rw[o];exact⟨.ref _,_,I.mC (t':=s.toks) (r.append i) (by rw[zd];lia),rfl,q _ I.fresh⟩
def oN:R2:=fun x y H Q=>∃l k xs,x= .ref l/\y= .int k/\H l=some (.lst xs)/\ -(2^63)<=k/\k<2^63/\xs.length*k.toNat<=sizeLine/\∀p,H p=none->Q (.ref p) (Av H p (.lst (List.replicate k.toNat xs).flatten))
theorem len_rep{a:Type}(xs:List a)(k:Nat):(List.replicate k xs).flatten.length=k*xs.length:=by induction k with|zero=>simp|succ k b=>rw[yO,y_,zd,b,wg,Nat.add_comm]
theorem Qo:Ia X (binaryOp .Mult) oN:=by
 intro p s σ H x y v u Q I C B h;obtain⟨l,k,xs,rfl,rfl,E,J,G,w,q⟩:=h;cases C;obtain⟨t,rfl⟩:=B;obtain⟨z,b,n,r,D,e⟩:=I.Yg E;have f:b.toArray.size*k.toNat<=sizeLine:=by rw[zI,<-D];exact w
 have i:¬b.toArray.size*k.toNat>(2^63-1)/8:=by have:(sizeLine:Nat)<=(2^63-1)/8:=⋯;lia
 have g:¬(!Builtin.List.listFitsIndex k)=true:=by rw[fitsIndex_both J G];exact zQ
 have c:¬Builtin.List.listTooLong (b.toArray.size*k.toNat)=true:=by rw[Sq f];exact zQ
 have d:List.foldl (fun o j=>o++j) #[] (List.replicate (if b.toArray.isEmpty=true then 0 else k.toNat) b.toArray)=(List.replicate k.toNat b).flatten.toArray:=by
  have K:∀m:Nat,List.foldl (fun o j=>o++j) #[] (List.replicate m b.toArray)=(List.replicate m b).flatten.toArray:=fun m=>by have:=foldl_rep b m [];rw[qg]at this;exact this
  rw[K];cases b with|nil=>simp|cons a L=>rw[zb (by simp)]
 refine wpAny_binaryOp_repeat_ref (T:="list") (U:="int") ⋯ ⟨_,e,rfl⟩ (fun A=>typeIs_int A k t) noFill_list_mul F.fills_int_mul F.slot_int_rmul repeat_list F.slot_int_index.lookup (tF F.slot_int_rmul (typeIs_int s k t) F.entry_int_rmul (F.args_int_rmul_2 _ _) (int___rmul___int_list k t l b.toArray n) ⟨e,rfl,⟨_,e,rfl⟩,tF F.slot_list_mul ⟨_,e,rfl⟩ F.entry_list_mul (F.args_list_mul_2 _ _) (AutoListH.list___mul___list_int_3 l b.toArray n k t g i c) ⟨e,?_⟩⟩);rw[d];exact⟨.ref _,_,I.mC (t':=s.toks) (r.rep k.toNat) (by rw[len_rep,yh];exact w),rfl,q _ I.fresh⟩
section
variable{w:World}
end
theorem AF.ints:∀{a:List Int}{us:List Value},AF (a.map V.int) us->IntsAre us a|[],us,h=>by rw[wk]at h;cases h;exact IntsAre.nil|n::a,us,h=>by rw[zH]at h;cases h with|cons r t=>obtain⟨k,rfl⟩:=r;exact IntsAre.cons n k (AF.ints t)
theorem Ig:∀{us:List Value}{a:List Int},IntsAre us a->AF (a.map V.int) us|_,_,.nil=>by rw[wk];exact Paired.nil|_,_,.cons n t h=>by rw[zH];exact Paired.cons (show AW (V.int n) (Value.int n t)from⟨t,rfl⟩) (Ig h)
theorem AF.q3:∀{a:List Bool}{us:List Value},AF (a.map V.bl) us->us=a.map Value.bool|[],us,h=>by rw[wk]at h;cases h;rfl|b::a,us,h=>by rw[zH]at h;cases h with|cons r t=>cases r;rw[AF.q3 t,zH]
theorem AF.jw(r:AF [V.ref a] us):us=[Value.ref a]:=by cases r with|cons r t=>cases t;cases r;rfl
section
variable{w:World}{l:Addr}{its:List Value}{ns:List Int}
theorem fK(r:A.handled=none)(k:s.heap.IsList l its.toArray)(m:IntsAre its ns)(g:0<ns.length)(h:∀c d M t',(∀b o,s.heap.get? b=some o->c.get? b=some o)->M∈ns->(∀a,a∈ns->a<=M)->Q (.int M t') {s with heap:=c,toks:=d}):wpAny (model prog w) A (call (.builtin "max") [.ref l]) Q E s:=by
 obtain⟨xs,e⟩:=m.allInts.items;have i:numsOf (intItems xs).toList=ns:=by rw[<-e];exact m.numsOf
 rw[nums_intItems]at i;subst i;rw[e]at k;have f:0<xs.size:=‹g›;refine PySem.max_intList r k f fun v c d n p=>?_;obtain⟨t,rfl⟩:=intItems_at n;obtain⟨y,x⟩:=argBest_gt (numAt xs) (xs.size-1);refine h c d _ t p ?_ fun a u=>?_;·rw[numAt_eq];exact PySem.getD_mem (by rw[z3,xi];lia)
 ·obtain⟨j,q,rfl⟩:=mem_getD u;rw[z3,xi]at q;rw[<-numAt_eq];exact x j ∅
end
def oO(K:Frag):List V->Hp->VK->Prop:=fun c H Q=>∃(a:Addr)(b:List Int),c=[V.ref a]/\AI K H a (b.map V.int)/\0<b.length/\∀m,m∈b->(∀y,y∈b->y<=m)->Q (.int m) H
theorem VA(j:X.calm=true):FG X (.builtin "max") (oO X.K):=by intro c s σ H n us Q I r h;obtain⟨a,p,rfl,f,b,q⟩:=h;obtain⟨e,d,g,Y⟩:=I.list f;rw[AF.jw r];exact fK (I.ok.hd j) g.isList d.ints b fun t o m t' i l k=>⟨.int _,H,I.kept i,⟨_,rfl⟩,q m l k⟩
def eX(K:Frag):List V->Hp->VK->Prop:=fun d H Q=>∃(a:Addr)(c:List Int),d=[V.ref a]/\AI K H a (c.map V.int)/\c.length<64/\∀(b:List Int)(p:Addr),b.Perm c->b.Pairwise (· <=·)->H p=none->Q (.ref p) (Av H p (.lst (b.map V.int)))
theorem dY{n:Nat}(h:n<64):n<=sizeLine:=by rw[uO];lia
theorem P7:FG X (.builtin "sorted") (eX X.K):=by
 intro i s σ H u us Q I r h;obtain⟨a,v,rfl,m,e,q⟩:=h;obtain⟨f,l,n,Y⟩:=I.list m;rw[AF.jw r];have j:=l.ints;refine PyProof.Rows.sorted_ints n.isList j (by rw[j.length];exact e) fun c b p k o=>?_;obtain⟨t,g⟩:=PyProof.Rows.sortedAll_at s.heap f c;have d:(b.map V.int).length<=sizeLine:=by rw[z3,k.length_eq];exact dY e
 exact⟨.ref _,Av H (s.heap.objs.size+1) (.lst (b.map V.int)),I.laid (t':=s.toks) (fun Y Y=>PyProof.Rows.sortedAll_old) (wG _) ⟨d,c.toList,t,Ig p,g⟩,rfl,q b _ k o (I.Bw.fresh (wG _))⟩
theorem bT{w:World}{l:Addr}{b:Array Value}(d:s.heap.IsList l b)(h:∀a:Shared,a={s with heap:=s.heap.push {cls:= .type "list_iterator",data:= .fields #[.ref l,.int 0 0]}}->(a.heap.IsListIter s.heap.objs.size l 0/\a.heap.IsList l b)->l≠s.heap.objs.size->Q (.ref s.heap.objs.size) a):wpAny (model prog w) A (pyIter (.ref l)) Q E s:=by
 have c:l<s.heap.objs.size:=by obtain⟨Y,e,Y⟩:=d;exact zA e
 exact tO d (h _ rfl ⟨⟨_,zM _ rfl,rfl,rfl⟩,d.push _⟩ (zV c))
theorem Ru{w:World}{f:List Bool}{a:List Value}(e:a=f.map Value.bool):TruthOf prog w A (fun i v=>a.toArray[i]?=some v) (fun i=>f.getD i false):=fun i v s Q E g h=>by
 have c:a[i]?=some v:=‹g›;rw[e,z7]at c;obtain⟨b,k,rfl⟩:=zy.mp c;have j:f.getD i false=b:=by rw[z5,k]<;>rfl
 have d:Q (f.getD i false) s:=h;rw[j]at d;exact yS d
theorem all_range:∀a:List Bool,(List.range a.length).all (fun i=>a.getD i false)=a.all id|[]=>rfl|b::a=>by rw[zm,wJ,wY,List.all_map,wY,<-all_range a];all_goals rfl
def oR(K:Frag):List V->Hp->VK->Prop:=fun c H Q=>∃(a:Addr)(b:List Bool),c=[V.ref a]/\AI K H a (b.map V.bl)/\Q (.bl (b.all id)) H
theorem kx(t:X.calm=true):FG X (.builtin "all") (oR X.K):=by
 intro g s σ H w us Q I r h;obtain⟨a,z,rfl,m,q⟩:=h;obtain⟨d,l,n,Y⟩:=I.list m;rw[AF.jw r];have i:=l.q3;refine call_all_walk (bT n.isList fun f u k e=>?_);subst u;refine⟨_,_,_,_,_,_,_,rfl,Walks.list (A:=X.A.in1) (I.ok.hd t) _ a e d.toArray,k,Ru i,fun y x p=>?_⟩;refine⟨.bl _,H,I.kept fun b o j=>p b o (fun c=>?_) (zi _ j),?_,q⟩
 ·rcases zw.mp c with v|c;·exact absurd (v▸zA j) (yV _)
  ·cases c
 ·show Value.bool _=Value.bool _;rw[<-all_range,i,zI,z3]
mutual
inductive Dp(K:Frag)(H:Hp):V->PyData->Prop|Bz:Dp K H .Bz .none|bl(b:Bool):Dp K H (.bl b) (.bool b) |int(i:Int):Dp K H (.int i) (.int i) |str(x:Str):Dp K H (.str x) (.str x) |lst{a:Addr}{xs:List V}{ds:List PyData}:AI K H a xs->N9 K H xs ds->Dp K H (.ref a) (.list ds) |tup{a:Addr}{xs:List V}{ds:List PyData}:Em K H a xs->N9 K H xs ds->Dp K H (.ref a) (.tuple ds)
inductive N9(K:Frag)(H:Hp):List V->List PyData->Prop|nil:N9 K H [] [] |cons{v:V}{vs:List V}{d:PyData}{ds:List PyData}:Dp K H v d->N9 K H vs ds->N9 K H (v::vs) (d::ds)
end
section
variable{σ:St}{H:Hp}
mutual
theorem Dp.reads(I:As X pins σ H s):∀(d:PyData)(v:V)(u:Value),Dp X.K H v d->AW v u->∃as,Reads s.heap u d as
| .none,_,_,h,r=>by cases h;cases r;exact⟨_,Reads.none⟩
| .bool b,_,_,h,r=>by cases h;cases r;exact⟨_,Reads.bool b⟩
| .int i,_,_,h,r=>by cases h;obtain⟨t,rfl⟩:=r;exact⟨_,Reads.int i t⟩
| .str x,_,_,h,r=>by cases h;obtain⟨t,rfl⟩:=r;exact⟨_,Reads.str x t⟩
| .list ds,_,_,h,r=>by cases h with|lst hs ha=>cases r;obtain⟨its,rv,⟨o,n,ho,hc,_,hd⟩,_⟩:=I.list hs;obtain⟨as,hr⟩:=Dp.readsAll I ds _ its ha rv;exact⟨_,Reads.list ho hc hd hr⟩
| .tuple ds,_,_,h,r=>by cases h with|tup hs ha=>cases r;obtain⟨its,rv,⟨o,ho,hc,n,hd⟩,_⟩:=I.tuple hs;obtain⟨as,hr⟩:=Dp.readsAll I ds _ its ha rv;exact⟨_,Reads.tuple ho hc hd hr⟩
| .dict _,_,_,h,_=>by cases h
theorem Dp.readsAll(I:As X pins σ H s):∀(ds:List PyData)(vs:List V)(us:List Value),N9 X.K H vs ds->AF vs us->∃as,ReadsAll s.heap us ds as|[],_,_,h,r=>by cases h;cases r;exact⟨_,ReadsAll.nil⟩ |d::ds,_,_,h,r=>by cases h with|cons h1 h2=>cases r with|cons r1 r2=>obtain⟨as,q1⟩:=Dp.reads I d _ _ h1 r1;obtain⟨bs,q2⟩:=Dp.readsAll I ds _ _ h2 r2;exact⟨_,ReadsAll.cons q1 q2⟩
end
end
def oQ(K:Frag):R2:=fun x y H Q=>∃d e,Dp K H x d/\Dp K H y e/\SeqAt.shaped d=true/\SeqAt.shaped e=true/\Q (.bl (PyData.eqv d e)) H
theorem jD(k:X.A.units+64<cLine):Ia X (compareOp .Eq) (oQ X.K):=by intro a s σ H x y v u Q I g f h;obtain⟨d,e,m,l,c,b,q⟩:=h;obtain⟨o,j⟩:=Dp.reads I d x v m g;obtain⟨n,i⟩:=Dp.reads I e y u l f;exact SeqAt.compareEq_shaped j i c b k ⟨.bl _,H,I,rfl,q⟩
abbrev dA(h:Heap)(c:Addr)(v:Option Value):Prop:=h.IsCell c v
def oJ(scope a:Scope):Scope:={scope with names:=scope.names.map fun(n,k)=>if(k== .free&&a.kind== .function&&a.names.lookup n==some .cell)then(n,.cell)else(n,k)}
def Bt(a:List (Str×Addr)):List (Str×NameKind)->List (Str×Addr)->List (Str×Addr) |[],b=>b|(n,k)::r,b=>if k== .free then Bt a r ((n,(a.lookup n).getD 0)::b)else Bt a r b
theorem Ji(env:Env)(f:Str×NameKind->List (Str×Addr)->Sem (ForInStep (List (Str×Addr))))(g:∀n k c,f (n,k) c=if k== .free then(do
 let a<-cellOf env n
 pure (.yield ((n,a)::c)))else pure (.yield c)):∀(names:List (Str×NameKind))(b:List (Str×Addr)),(∀y∈names,y.2= .free->∃c,env.cells.lookup y.1=some c)->forIn names b f=pure (Bt env.cells names b)
|[],b,_=>by rw[tR];rfl
|(n,k)::r,b,h=>by
 rw[uo,g];have d:=fun b=>Ji env f g r b fun y j=>h y (zg _ j);unfold Bt;by_cases hk:(k==NameKind.free)=true
 ·rw[zc hk,zc hk];obtain⟨c,i⟩:=h (n,k) zh ‹hk›;have e:cellOf env n=pure c:=by unfold cellOf;rw[i]
  rw[e];have l:(env.cells.lookup n).getD 0=c:=by rw[i];rfl
  rw[l];exact d _
 ·rw[zb hk,zb hk];exact d _
theorem VB{env:Env}(h:∀y∈scope.names,y.2= .free->∃c,env.cells.lookup y.1=some c):closureFor scope env=pure (Bt env.cells scope.names []):=by simp only[closureFor];rw[Ji env _ (fun n k c=>rfl) scope.names [] h];rfl
theorem mem_lookup{a:Type}:∀{l:List (Str×a)}{n:Str}{c:a},(n,c)∈l->∃d,l.lookup n=some d
|(k,v)::r,n,c,h=>by
 rw[yp];cases b:n==k with
 |true=>exact⟨_,rfl⟩
 |false=>
  rcases zw.mp h with e|h;·cases e;simp at b
  ·exact mem_lookup h
theorem E9{a:List (Str×Addr)}:∀{names:List (Str×NameKind)}{b:List (Str×Addr)}{n:Str}{c:Addr},(n,c)∈Bt a names b->(n,c)∈b\/((n,.free)∈names/\c=(a.lookup n).getD 0)
|[],_,_,_,h=> .inl h
|(m,k)::r,b,n,c,h=>by
 unfold Bt at h;split at h
 ·rename_i d;have d:k= .free:=‹d›;rcases E9 h with h|⟨g,f⟩
  ·rcases zw.mp h with e|h;·cases e;exact .inr ⟨d▸zh,rfl⟩
   ·exact .inl h
  ·exact .inr ⟨zg _ g,f⟩
 ·rcases E9 h with h|⟨g,f⟩;·exact .inl h
  ·exact .inr ⟨zg _ g,f⟩
theorem G4{a:List (Str×Addr)}:∀{names:List (Str×NameKind)}{b:List (Str×Addr)}{p:Str×Addr},p∈b->p∈Bt a names b
|[],_,_,h=>h
|(m,k)::r,b,p,h=>by
 unfold Bt;split;·exact G4 (zg _ h)
 ·exact G4 h
theorem G3{cells:List (Str×Addr)}:∀{names:List (Str×NameKind)}{acc:List (Str×Addr)}{n:Str},(n,.free)∈names->(n,(cells.lookup n).getD 0)∈Bt cells names acc
|(m,k)::r,acc,n,h=>by
 unfold Bt;rcases zw.mp h with e|h;·cases e;exact G4 zh
 ·split;·exact G3 h
  ·exact G3 h
theorem Fb:∀{names:List (Str×NameKind)}{h:Heap}{b:List (Str×Addr)}{x:Str}{c:Addr},(x,c)∈cellsFrom h.objs.size names b->(x,c)∈b\/((x,.cell)∈names/\h.objs.size<=c/\dA (pushCells h names) c none)
|[],_,_,_,_,h=> .inl h
|(n,k)::r,h,b,x,c,a=>by
 unfold cellsFrom at a;unfold pushCells;split at a
 ·rename_i d;rw[zc d];have d:k= .cell:=‹d›;rw[<-yk h {cls:= .type "cell",data:= .cell none}]at a;rcases Fb a with a|⟨i,f,g⟩
  ·rcases zw.mp a with e|a;·cases e;exact .inr ⟨d▸zh,ze _,_,uF r _ _ _ (zM _ rfl),rfl⟩
   ·exact .inl a
  ·rw[yk]at f;exact .inr ⟨zg _ i,vv f,g⟩
 ·rename_i d;rw[zb d];rcases Fb a with a|⟨i,f,g⟩;·exact .inl a
  ·exact .inr ⟨zg _ i,f,g⟩
theorem G_:∀{names:List (Str×NameKind)}{n:Nat}{a:List (Str×Addr)}{p:Str×Addr},p∈a->p∈cellsFrom n names a
|[],_,_,_,h=>h
|(m,k)::r,n,a,p,h=>by
 unfold cellsFrom;split;·exact G_ (zg _ h)
 ·exact G_ h
theorem Kk:∀{names:List (Str×NameKind)}{n:Nat}{acc:List (Str×Addr)}{x:Str},(x,.cell)∈names->∃c,(x,c)∈cellsFrom n names acc
|(m,k)::r,n,acc,x,h=>by
 unfold cellsFrom;rcases zw.mp h with e|h;·cases e;exact⟨n,G_ zh⟩
 ·split;·exact Kk h
  ·exact Kk h
theorem Kj:∀{names:List (Str×NameKind)}{h:Heap}{d:List (Str×Addr)}{x y:Str}{c:Addr},(∀p∈d,p.2<h.objs.size)->(∀x y c,(x,c)∈d->(y,c)∈d->x=y)->(x,c)∈cellsFrom h.objs.size names d->(y,c)∈cellsFrom h.objs.size names d->x=y
|[],_,_,_,_,_,_,j,g,f=>j _ _ _ g f
|(n,k)::r,h,d,x,y,c,i,j,g,f=>by
 unfold cellsFrom at g f;split at g
 ·rename_i m;rw[zc m]at f;rw[<-yk h {cls:= .type "cell",data:= .cell none}]at g f;refine Kj (h:=h.push _) (fun p l=>?_) (fun x y c a b=>?_) g f
  ·rw[yk];rcases zw.mp l with rfl|l;·exact yU _
   ·exact yM (i p l)
  ·rcases zw.mp a with e|a<;>rcases zw.mp b with o|b;·cases e;cases o;rfl
   ·cases e;exact absurd (i _ b) (yV _)
   ·cases o;exact absurd (i _ a) (yV _)
   ·exact j _ _ _ a b
 ·rename_i m;rw[zb m]at f;exact Kj i j g f
theorem Sr{M:Model}{d:Addr}{a:List (Str×Addr)}{f:Option Addr}{g:Value}{e:Env}{b:Addr}{Q:Env->Shared->Prop}(h:Q (newEnv scope s.heap.objs.size d (cellsFrom (s.heap.objs.size+1) scope.names a) qual f g (some e) b) {s with heap:=pushCells (s.heap.push {cls:= .type "dict",data:= .dict #[]}) scope.names}):wpAny M A (newFunctionEnv scope d a [] qual f g (some e) b) Q E s:=by simp only[newFunctionEnv,rC,xj];refine za (sf ?_);refine za (wpAny_layCells _ (fun n k c=>rfl) scope.names a _ _ ?_);rw[show({s with heap:=s.heap.push {cls:= .type "dict",data:= .dict #[]}}:Shared).heap.objs.size=s.heap.objs.size+1 from yk ..];rw[tR];exact za (zr (zr h))
theorem Gg{c:Scope}:∀{names:List (Str×NameKind)}{x:Str}{k:NameKind},(names.map fun(n,k)=>if(k==NameKind.free&&c.kind== .function&&c.names.lookup n==some .cell)then(n,NameKind.cell)else(n,k)).lookup x=some k->∃e,names.lookup x=some e/\(k=e\/(e= .free/\k= .cell))
|[],_,_,h=>by simp at h
|(n,a)::r,x,k,h=>by
 have f:=@Gg c r x k;have b:List.lookup x ((if(a==NameKind.free&&c.kind== .function&&c.names.lookup n==some .cell)=true then(n,NameKind.cell)else(n,a))::(r.map _))=some k:=h;cases d:x==n with
 |true=>
  simp only[yp,d];by_cases hc:(a==NameKind.free&&c.kind== .function&&c.names.lookup n==some .cell)=true;·rw[zc hc]at b;simp only[yp,d]at b;cases b;simp only[zp,zP]at hc;exact⟨a,rfl,.inr ⟨hc.1.1,rfl⟩⟩
  ·rw[zb hc]at b;simp only[yp,d]at b;cases b;exact⟨_,rfl,.inl rfl⟩
 |false=>
  simp only[yp,d];by_cases hc:(a==NameKind.free&&c.kind== .function&&c.names.lookup n==some .cell)=true;·rw[zc hc]at b;simp only[yp,d]at b;exact f b
  ·rw[zb hc]at b;simp only[yp,d]at b;exact f b
structure Jr(N:List Str)(sc scope:Scope)(own:List (Str×Nat)):Prop where
 kind:scope.kind= .function
 uniq:∀y∈scope.names,scope.names.lookup y.1=some y.2
 ix:∀p∈own,N[p.2]?=some p.1
 free:∀y∈scope.names,y.2= .free->sc.names.lookup y.1=some .cell\/sc.names.lookup y.1=some .free
 own:∀y∈scope.names,y.2= .local\/y.2= .cell->y.1∈own.map (·.1)\/y.1∉N
def wipe(σ:St):List Nat->St|[]=>σ|v::a=>(wipe σ a).set v none
theorem FO(σ:St):∀a:List Nat,(wipe σ a).length=σ.length|[]=>rfl|v::a=>by unfold wipe;rw[yP,FO σ a]
theorem Jx{σ:St}{x:V}:∀{a:List Nat},(wipe σ a)[i]?=some (some x)->σ[i]?=some (some x)/\i∉a
|[],h=>⟨h,by simp⟩
|v::a,h=>by
 unfold wipe at h;by_cases hi:v=i
 ·subst hi;by_cases hv:v<(wipe σ a).length;·rw[wL hv]at h;cases h
  ·rw[xX ‹hv›]at h;cases h
 ·rw[va hi]at h;obtain⟨c,b⟩:=Jx h;exact⟨c,by simp only[zw,not_or];exact⟨fun e=>hi e.symm,b⟩⟩
abbrev Cx.QV(X:Cx)(s:Shared)(H:Hp)(scope:Scope)(a:Env)(b:List Addr):Cx:={X with s_0:=s,H_0:=H,env:=a,outer:=X.stack,ex:=b,fn:=fun x=>scope.names.lookup x==some .cell,pn:=[],xe:=fun Y Y=>False}
section
variable{σ:St}{H:Hp}
theorem Ua{P:List (Str×Nat)}{fp:List Addr}(I:As X pins σ H s)(C:Jr X.N X.env.scope scope P)(hN:X.N.Nodup)(t:∀b∈fp,Cf X pins H b/\b<s.heap.objs.size):As (X.QV s H scope (compEnvC scope (cellsFrom (s.heap.objs.size+1) scope.names (Bt X.env.cells scope.names [])) s.heap.objs.size X.env) fp) [] (wipe σ (P.map (·.2))) H {s with heap:=pushCells (s.heap.push {cls:= .type "dict",data:= .dict #[]}) scope.names}:=by
 have N:∀y∈scope.names,y.2= .free->∃c,X.env.cells.lookup y.1=some c:=fun y x e=>by
  rcases C.free y x e with k|k;·exact I.ok.has _ (.inl k)
  ·exact I.ok.has _ (.inr k)
 generalize f:compEnvC scope (cellsFrom (s.heap.objs.size+1) scope.names (Bt X.env.cells scope.names [])) s.heap.objs.size X.env=d;have T:∀b o,s.heap.get? b=some o->(pushCells (s.heap.push {cls:= .type "dict",data:= .dict #[]}) scope.names).get? b=some o:=fun b o e=>uF _ _ _ _ (zi _ e);have V:d.locals=s.heap.objs.size:=by rw[<-f];rfl
 have h:d.cells=cellsFrom (s.heap.objs.size+1) scope.names (Bt X.env.cells scope.names []):=by rw[<-f];rfl
 have K:d.scope=oJ scope X.env.scope:=by rw[<-f];rfl
 rw[<-yk s.heap {cls:= .type "dict",data:= .dict #[]}]at h;have S:∀{y c},(y,c)∈Bt X.env.cells scope.names []->X.env.cells.lookup y=some c/\c<s.heap.objs.size:=fun{y c} l=>by
  rcases E9 l with l|⟨g,rfl⟩;·cases l
  ·obtain⟨c,hc⟩:=N _ g rfl;rw[hc];obtain⟨w,z⟩:=I.cell _ _ hc;exact⟨rfl,z.lt⟩
 have mem:∀{y c},d.cells.lookup y=some c->(X.env.cells.lookup y=some c/\c<s.heap.objs.size)\/(s.heap.objs.size+1<=c/\dA (pushCells (s.heap.push {cls:= .type "dict",data:= .dict #[]}) scope.names) c none):=fun{y c} e=>by
  rw[h]at e;rcases Fb (zU e)with l|⟨Y,B,h3⟩;·exact .inl (S l)
  ·rw[yk]at B;exact .inr ⟨B,h3⟩
 have D:∀{y},scope.names.lookup y=some .free->∃c,d.cells.lookup y=some c/\X.env.cells.lookup y=some c:=fun{y} U=>by
  have x:(y,NameKind.free)∈scope.names:=zU U;obtain⟨W,u⟩:=mem_lookup (G_ (names:=scope.names) (n:=(s.heap.push {cls:= .type "dict",data:= .dict #[]}).objs.size) (G3 (cells:=X.env.cells) (acc:=[]) x));rw[<-h]at u;exists W,u;rw[h]at u;rcases Fb (zU u)with l|⟨g,Y,Y⟩;·exact(S l).1
  ·have:=C.uniq _ g;rw[U]at this;cases this
 have Z:(X.QV s H scope d fp).Ok:=by
  refine⟨I.ok.mod,by show d.scope.kind=_;rw[K];exact C.kind,by show d.globals=_;rw[<-f];exact I.ok.glob,by show d.builtins=_;rw[<-f];exact I.ok.blt,by show s.heap.objs.size<=d.locals;rw[V];exact ze _,fun y z c J G=>?_,fun y x=>?_,fun y c z e=>?_,I.ok.hd,I.ok.frames,.inl rfl,fun b F=>⟨?_,fun y c e z=>?_⟩,I.bs,z_ I.ok.Zg I.sz,fun b o e F=>?_,fun b F z=>?_,I.stack,I.PV⟩;·have J:d.cells.lookup y=some c:=J;have G:d.cells.lookup z=some c:=G;rw[h]at J G;refine Kj (fun p O=>?_) (fun y z c a b=>I.ok.inj y z c (S a).1 (S b).1) (zU J) (zU G);rw[yk];exact yM (S (y:=p.1) (c:=p.2) O).2
  ·show∃c,d.cells.lookup y=some c;have j:∀k,d.kindOf y=some k->(k= .cell\/k= .free)->∃c,d.cells.lookup y=some c:=fun k M L=>by
    unfold Env.kindOf at M;rw[K]at M;obtain⟨E,e,r⟩:=Gg M;have:E= .cell\/E= .free:=by
     rcases r with rfl|⟨rfl,Y⟩;·exact L
     ·exact .inr rfl
    rcases this with rfl|rfl;·obtain⟨c,l⟩:=Kk (n:=(s.heap.push {cls:= .type "dict",data:= .dict #[]}).objs.size) (acc:=Bt X.env.cells scope.names []) (zU e);obtain⟨W,u⟩:=mem_lookup l;exact⟨W,by rw[h];exact u⟩
    ·obtain⟨c,g,Y⟩:=D e;exact⟨c,g⟩
   rcases x with x|x;·exact j _ x (.inl rfl)
   ·exact j _ x (.inr rfl)
  ·have z:(scope.names.lookup y==some NameKind.cell)=true:=z;have z:scope.names.lookup y=some .cell:=‹z›;have e:d.cells.lookup y=some c:=e;rw[h]at e;rcases Fb (zU e)with l|⟨Y,B,Y⟩
   ·rcases E9 l with l|⟨g,Y⟩;·cases l
    ·have q:=C.uniq _ g;rw[z]at q;cases q
   ·rw[yk]at B;exact vv B
  ·show b≠d.locals;rw[V];exact zV (t b F).2
  ·have e:d.cells.lookup y=some c:=e;rcases mem e with⟨g,Y⟩ |⟨g,Y⟩;·exact(t b F).1.2.2.2.2.1 y c g z
   ·have B:s.heap.objs.size+1<=b:=by rw[<-z];exact g
    exact absurd (zF (t b F).2 (vv B)) (yV _)
  ·rcases(t b F).1.2.2.2.1 with z|z;·exact I.ok.UX b o e z
   ·exact absurd (zF (zA e) (z_ I.ok.Zg z)) (yV _)
  ·rcases zw.mp (I.Jz b z)with z|z;·exact(t b F).1.2.1 z
   ·exact(t b F).1.2.2.1 z
 refine⟨Z,rfl,I.bare,Un.kept T,⟨fun Y=>none,?_,fun i y av J G v=>?_⟩,fun y c e=>?_,?_,fun y c e=>?_,fun p O=>?_,I.Bw.kept T,by rw[FO];exact I.len⟩;·show Heap.Ns _ d.locals _;rw[V];exact Heap.Ns.keeps (Heap.Ns.new ..) fun b o e=>uF _ _ _ _ e
 ·obtain⟨G,a1⟩:=Jx G;have A:scope.names.lookup y=some .free/\(d.kindOf y=some .cell\/d.kindOf y=some .free):=by
   have j:∀k,d.scope.names.lookup y=some k->k= .local\/k= .cell\/k= .free->scope.names.lookup y=some .free/\(d.kindOf y=some .cell\/d.kindOf y=some .free):=fun k M L=>by
    have R:=M;rw[K]at M;obtain⟨E,e,r⟩:=Gg M;have no:¬(E= .local\/E= .cell):=fun hh=>by
     rcases C.own _ (zU e) hh with u|u;·obtain⟨p,O,a0⟩:=zk.mp u;have v:=C.ix p O;have:p.1=y:=a0;rw[this]at v;exact a1 (zk.mpr ⟨p,O,IP hN v J⟩)
     ·exact u (zf J)
    rcases r with rfl|⟨rfl,rfl⟩
    ·rcases L with rfl|rfl|rfl;·exact absurd (.inl rfl) no
     ·exact absurd (.inr rfl) no
     ·exact⟨e,.inr R⟩
    ·exact⟨e,.inl R⟩
   have v:lg d.scope y:=v;rcases v with v|v|v;·exact j _ v (.inl rfl)
   ·exact j _ v (.inr (.inl rfl))
   ·exact j _ v (.inr (.inr rfl))
  obtain⟨m,hn,U⟩:=I.loc;have Q:lg X.env.scope y:=(C.free _ (zU A.1) rfl).elim (fun k=> .inr (.inl k)) (fun k=> .inr (.inr k));obtain⟨w,r,q⟩:=U i y av J G Q;refine⟨w,r,.inr ⟨A.2,?_⟩⟩;obtain⟨c,g,B⟩:=D A.1;rcases q with⟨k,Y⟩ |⟨Y,W,u,z⟩;·have k:X.env.scope.names.lookup y=some .local:=k;rcases C.free _ (zU A.1) rfl with E|E<;>rw[show X.env.scope.names.lookup y=_ from E]at k<;>cases k
  ·rw[B]at u;cases u;exact⟨c,g,z.keeps T⟩
 ·have e:d.cells.lookup y=some c:=e;rcases mem e with⟨g,Y⟩ |⟨Y,z⟩;·obtain⟨w,z⟩:=I.cell y c g;exact⟨w,z.keeps T⟩
  ·exact⟨_,z⟩
 ·show H d.locals=none;rw[V];exact I.Bw.fresh (ze _)
 ·have e:d.cells.lookup y=some c:=e;rcases mem e with⟨g,Y⟩ |⟨g,Y⟩;·exact I.CM y c g
  ·exact I.Bw.fresh (vv g)
 ·exact absurd (show p∈([]:List (Addr×Obj))++[]from O) (by simp)
theorem kL{D:Addr}{xs:List V}{y:V}{v:Value}(I:As X pins σ H s)(g:H D=some (.lst xs))(k:xs.length<sizeLine)(r:AW y v)(h:∀d,As X pins σ (Av H D (.lst (xs++[y]))) d->Q .none d):wpX X (call (.builtin "list.append") [.ref D,v]) Q E s:=by obtain⟨j,c,n,f,e⟩:=I.Bw D _ g;have o:=f.length;refine append_at (hsz:=by rw[zI];lia) e fun m i a=>?_;refine h {s with heap:=m} (I.write (t':=s.toks) (by rw[g];trivial) (.inl rfl) (fun b u l q=>(i.2 b l).trans q) ⟨_,a⟩ ⟨by rw[zd];exact k,c++[v],n+1,f.append (.cons r .nil),?_⟩);rw[a];simp
def mZ(X:Cx)(b:List Expr)(t:TT):Prop:=∀(a:List (Addr×Obj))(s:Shared)(σ:St)(H:Hp)(Q:Bool->Hp->Prop),As X a σ H s->t σ H Q->wpX X (forIn b true fun c r=>if r=true then do
 let ok<-isTrue c X.env (eval c X.env)
 pure (ForInStep.yield ok)else pure (ForInStep.yield r)) (TP X a σ Q) X.xe s
def HF:TT:=fun Y H Q=>Q true H
theorem Cg:mZ X [] HF:=fun Y Y Y H Y I h=>wpAny_tests_nil ⟨H,I,h⟩
theorem W8{c:Expr}{t:TT}(h:PT X c t):mZ X [c] t:=fun a s σ H Q I b=>wpAny_tests_one (h a s σ H Q I b)
end
theorem Xx{b:Type}{t:Sem b}{Q c:b->Shared->Prop}{M:Model}(h:wpAny M A t Q (fun Y Y=>False) s)(d:∀a s,Q a s->c a s):wpAny M A t c E s:=yG h d fun Y Y z=>False.elim z
theorem QQ{w:World}{R:Result->Shared->Prop}{y a o:Expr}{t:List Expr}{B:Pos}{G z:Value}{env:Env}(I:Nat->Shared->Prop)(turn:∀n s,I n s->wpAny (model prog w) A (pyNext G) (fun r f=>match r with
|none=>R (.ok .next) f
|some v=>wpAny (model prog w) A (letOwnedTupleGo a G v) (fun Y d=>wpAny (model prog w) A (assign a env v) (fun Y l=>wpAny (model prog w) A (forIn t true fun c r=>if r=true then do
 let C<-isTrue c env (eval c env)
 pure (ForInStep.yield C)else pure (ForInStep.yield r)) (fun C b=>if C=true then wpAny (model prog w) A (eval y env) (fun x k=>wpAny (model prog w) A (call (.builtin "list.append") [z,x]) (fun Y j=>∃m,m<n/\I m j) (notedBy (model prog w) A env fun e g=>R (.error e) g) k) (notedBy (model prog w) A env fun e g=>R (.error e) g) b else∃m,m<n/\I m b) (notedBy (model prog w) A env fun e g=>R (.error e) g) l) (notedBy (model prog w) A env fun e g=>R (.error e) g) d) (notedBy (model prog w) A env fun e g=>R (.error e) g) f) (notedBy (model prog w) A env fun e g=>R (.error e) g) s)(n:Nat)(h:I n s):codeAny (model prog w) A (.compLoop (.ListComp y [⟨a,o,t,0⟩] scope B) 0 G z env) R s:=by
 refine codeAny_loop rfl I (fun n s H=>?_) n h;show wpAny _ A ((compTurn (.ListComp y [⟨a,o,t,0⟩] scope B) 0 G z env).onRaise (fun x=>do
  noteFrame x env
  theTreesLotGoes x)) _ _ s;refine wpAny_noted ?_;rw[compTurn_list];refine za (xb (za (yG (turn n s H) (fun r f q=>?_) fun Y Y i=>i)));cases r with|none=>exact zr q|some v=>refine za (yG q (fun Y d u=>?_) fun Y Y i=>i);refine za (yG u (fun Y l F=>za (yG F (fun C b p=>?_) fun Y Y i=>i)) fun Y Y i=>i);cases C with|false=>exact zr ⟨rfl,p⟩ |true=>exact za (za (yG p (fun x k E=>za (yG E (fun Y j D=>zr (zr ⟨rfl,D⟩)) fun Y Y i=>i)) fun Y Y i=>i))
def ny(n:TI)(g:TG)(o:TT)(te:TE)(e:List Nat):TE:=fun σ H Q=>n σ H fun J l=>∀D,l D=none->∃W:Nat->Nat->Hp->Prop,(∃m,W 0 m (Av l D (.lst [])))/\∀i m H,W i m H->(J.stop i H/\Q (.ref D) H)\/(J.go i H/\∃f:Hp->Prop,(∀d,f d->∃h,h<m/\W (i+1) h d)/\∀x d,J.Uj i H x d->g x (wipe σ e) d fun a p=>wipe a e=wipe σ e/\o a p fun b k=>if b=true then te a k fun y j=>∃c,j D=some (.lst c)/\c.length<sizeLine/\f (Av j D (.lst (c++[y])))else f k)
theorem WN{f:List (Addr×Obj)}{σ:St}{H:Hp}{Q:VK}{M w:Expr}{L:List Expr}{G:List (Str×Nat)}{U a6:Pos}{wi:TI}{g:TG}{tt:TT}{te:TE}{B:Option (Value->Sem Unit)}{Qf:Value->Shared->Prop}(hc:X.calm=true)(hN:X.N.Nodup)(I:As X f σ H s)(hi:PI X tg w wi)(ok:Jr X.N X.env.scope scope G)(hg:∀(s:Shared)(H:Hp)(C:Addr)(cl:List (Str×Addr))(d:List Addr),PG (X.QV s H scope (compEnvC scope cl C X.env) d) tg g)(ht:∀(s:Shared)(H:Hp)(C:Addr)(cl:List (Str×Addr))(d:List Addr),mZ (X.QV s H scope (compEnvC scope cl C X.env) d) L tt)(he:∀(s:Shared)(H:Hp)(C:Addr)(cl:List (Str×Addr))(d:List Addr),PE (X.QV s H scope (compEnvC scope cl C X.env) d) M te)(hs:∀x,foldedSetIterable w X.env x=pure x)(h:ny wi g tt te (G.map (·.2)) σ H Q)(b7:∀D C A m t,As X f σ t A->Q (.ref D) t->A.heap.Ns C m->Cf X f t C->compPost (model X.prog X.w) X.A X.xe B Qf (.ref D) C (.ok .next) A):wpX X (comprehension (.ListComp M [⟨tg,w,L,0⟩] scope U) scope X.env a6 (newList []) false (eval w X.env) B) Qf X.xe s:=by
 have V:∀y∈scope.names,y.2= .free->∃c,X.env.cells.lookup y.1=some c:=fun y hy e=>by
  rcases ok.free y hy e with k|k;·exact I.ok.has _ (.inl k)
  ·exact I.ok.has _ (.inr k)
 refine wpAny_comprehension_free (use:=B) rfl hs (VB V) ok.kind (fun y hy e=>by rw[ok.uniq y hy,e]) (Bq (hi f s σ H _ I h) fun xv s1 hx=>Bq hx fun c5 s2 h2=>?_);obtain⟨it,d,tn,J,R,e,I2,T,a5,f2,q⟩:=h2;subst e;refine wu (Sr ?_) (by show 0<=sizeLine;decide);generalize hD:s2.heap.objs.size=D;have b9:R D=none:=I2.Bw.fresh (uU hD);obtain⟨W,⟨m0,w0⟩,turn⟩:=q D b9;generalize b0:({s2 with heap:=s2.heap.push {cls:= .type "list",data:= .seq ([]:List Value).toArray}}:Shared)=a;have I3:As X f σ (Av R D (.lst [])) a:=by rw[<-b0];refine I2.laid (t':=s2.toks) (fun b o e=>zi _ e) (uU hD) ⟨zx _,[],0,.nil,?_⟩;rw[<-hD];exact zM _ rfl
 have h3:a.heap=s2.heap.push {cls:= .type "list",data:= .seq ([]:List Value).toArray}:=by rw[<-b0]
 have sz:∀b∈d,b<s2.heap.objs.size:=fun b l=>by obtain⟨o,e,Y⟩:=T.obj _ _ a5 b l;exact zA e
 have Z:∀b∈d,Cf X f (Av R D (.lst [])) b/\b<a.heap.objs.size:=fun b l=>by have b1:=sz b l;refine⟨⟨?_,(f2 b l).2⟩,by rw[h3,yk];exact yM b1⟩;rw[Ac (by rw[<-hD];exact zV b1)];exact(f2 b l).1
 have b3:tn 0 a.heap:=T.keep _ _ _ a5 fun b Y o e=>by rw[h3];exact zi _ e
 have I4:=Ua I3 ok hN Z;have pg:=hg a (Av R D (.lst [])) a.heap.objs.size (cellsFrom (a.heap.objs.size+1) scope.names (Bt X.env.cells scope.names [])) d;have pt:=ht a (Av R D (.lst [])) a.heap.objs.size (cellsFrom (a.heap.objs.size+1) scope.names (Bt X.env.cells scope.names [])) d;have pe:=he a (Av R D (.lst [])) a.heap.objs.size (cellsFrom (a.heap.objs.size+1) scope.names (Bt X.env.cells scope.names [])) d;show codeAny _ _ (.compStart (.ListComp M [⟨tg,w,L,0⟩] scope U) 0 (.ref it) (.ref D) (compEnvC scope (cellsFrom (a.heap.objs.size+1) scope.names (Bt X.env.cells scope.names [])) a.heap.objs.size X.env)) (compPost (model X.prog X.w) X.A X.xe B Qf (.ref D) a.heap.objs.size) {a with heap:=pushCells (a.heap.push {cls:= .type "dict",data:= .dict #[]}) scope.names};have a7:∀b∈d,(Av R D (.lst [])) b=none:=fun b l=>(Z b l).1.1;generalize b6:compEnvC scope (cellsFrom (a.heap.objs.size+1) scope.names (Bt X.env.cells scope.names [])) a.heap.objs.size X.env=E at I4 pg pt pe|-;have cL:E.locals=a.heap.objs.size:=by subst b6;rfl
 generalize c6:Av R D (.lst [])=N at I3 I4 pg pt pe w0 a7 Z;generalize b5:({a with heap:=pushCells (a.heap.push {cls:= .type "dict",data:= .dict #[]}) scope.names}:Shared)=s4 at I4|-;have a4:tn 0 s4.heap:=T.keep _ _ _ b3 fun b Y o e=>by rw[<-b5];exact uF _ _ _ _ (zi _ e)
 have F:∀{a0:St}{t:Hp}{A:Shared},As (X.QV a N scope E d) [] a0 t A->(∀b∈d,t b=none)->∀b∈d,Cf (X.QV a N scope E d) [] t b:=fun{a0 t A} I' hn b l=>⟨hn b l,(I'.ok.kY b l).1,I'.ok.Vy b l,.inl l,fun x c e=>(I'.ok.kY b l).2 x c e,fun p hp=>absurd (show p∈([]:List (Addr×Obj))++[]from hp) (by simp)⟩;have P:codeAny (model X.prog X.w) X.A (.compLoop (.ListComp M [⟨tg,w,L,0⟩] scope U) 0 (.ref it) (.ref D) E) (compPost (model X.prog X.w) X.A X.xe B Qf (.ref D) a.heap.objs.size) s4:=by
  refine QQ (fun n A=>∃i t,As (X.QV a N scope E d) [] (wipe σ (G.map (·.2))) t A/\tn i A.heap/\(∀b∈d,t b=none)/\W i n t) ?_ m0 ⟨0,N,I4,a4,a7,w0⟩;rintro n s5 ⟨i,H5,I5,a3,n5,w5⟩;rcases turn i n H5 w5 with⟨a1,qq⟩ |⟨go,Nx,b8,a2⟩
  ·have td:=T.done (X.QV a N scope E d) rfl rfl rfl hc i [] s5 _ H5 (fun Y Y=>False) I5 (F I5 n5) a3 a1;refine Xx td fun r s6 ⟨hr,I6⟩=>?_;subst hr;have I7:As X f σ H5 s6:=I3.iq (ch:=d) I6.os I6.base I6.Bw I6.bare fun b l=>⟨(Z b l).1.2.2.2.1,(Z b l).1.2.1,(Z b l).1.2.2.2.2.1,(Z b l).1.2.2.2.2.2⟩;have nC:H5 a.heap.objs.size=none:=by have z:H5 E.locals=none:=I6.free;rw[cL]at z;exact z
   obtain⟨m,hn,Y⟩:=I6.loc;have hn:s6.heap.Ns E.locals m:=hn;rw[cL]at hn;exact b7 D a.heap.objs.size s6 m H5 I7 qq hn (I3.JZ (ze _) nC)
  ·have ti:=T.item (X.QV a N scope E d) rfl rfl rfl hc i [] s5 _ H5 (fun Y Y=>False) I5 (F I5 n5) a3 go;refine Xx ti fun r s6 ⟨u,hr,h6⟩=>?_;subst hr;refine Xx h6 fun Y s7 ⟨x,H7,I7,r7,y7,S,n7⟩=>?_;have c0:=I7.pinned (F I7 n7) (T.obj _ _ S);refine Xx (pg _ s7 _ H7 x u _ c0 r7 (a2 x H7 y7)) fun Y s8 ⟨K,H8,I8,a9,q8⟩=>?_;refine Xx (pt _ s8 K H8 _ I8 q8) fun b s9 ⟨H9,I9,q9⟩=>?_;have fin:∀{A:Shared}{t:Hp},As (X.QV a N scope E d) ([]++MA d s7.heap) K t A->Nx t->∃m,m<n/\∃i t,As (X.QV a N scope E d) [] (wipe σ (G.map (·.2))) t A/\tn i A.heap/\(∀b∈d,t b=none)/\W i m t:=fun{A t} I' nx=>by
    obtain⟨m',hm,w'⟩:=b8 t nx;have O:∀b∈d,∀o,s7.heap.get? b=some o->A.heap.get? b=some o/\t b=none:=fun b l o e=>let z:=I'.pin (b,o) (yx _ (yx _ (HS l e)));⟨z.1,z.2.1⟩;have hl:(wipe σ (G.map (·.2))).length=K.length:=by rw[<-a9,FO]
    refine⟨m',hm,i+1,t,(I'.Ii (pins:=[])).weak hl (fun j v e=>?_),T.keep _ _ _ S fun b l o e=>(O b l o e).1,fun b l=>?_,w'⟩;·rw[<-a9]at e;exact(Jx e).1
    ·obtain⟨o,e,Y⟩:=T.obj _ _ S b l;exact(O b l o e).2
   cases b with|false=>simp only[yD,yW]at q9|-;exact fin I9 q9|true=>simp only[xj]at q9|-;refine Xx (pe _ s9 K H9 _ I9 q9) fun z c4 ⟨yv,c8,c2,b4,c7,b2,a8,nx⟩=>?_;exact kL (X:=X.QV a N scope E d) c2 b2 a8 b4 fun c3 c1=>fin c1 nx
 exact codeAny_compStart_list P (T.self X.A 0 _ _ _ a4 P)
theorem F_{i a:Expr}{c:List Expr}{own:List (Str×Nat)}{k:Pos}{l:TI}{g:TG}{n:TT}{te:TE}(E:X.calm=true)(G:X.N.Nodup)(z:PI X tg a l)(u:Jr X.N X.env.scope scope own)(A:∀(s:Shared)(H:Hp)(C:Addr)(j:List (Str×Addr))(d:List Addr),PG (X.QV s H scope (compEnvC scope j C X.env) d) tg g)(v:∀(s:Shared)(H:Hp)(C:Addr)(j:List (Str×Addr))(d:List Addr),mZ (X.QV s H scope (compEnvC scope j C X.env) d) c n)(B:∀(s:Shared)(H:Hp)(C:Addr)(j:List (Str×Addr))(d:List Addr),PE (X.QV s H scope (compEnvC scope j C X.env) d) i te)(w:∀x,foldedSetIterable a X.env x=pure x:=by intro Y;rfl):PE X (.ListComp i [⟨tg,a,c,0⟩] scope k) (ny l g n te (own.map (·.2))):=by intro p s σ H Q I h;rw[eval_ListComp];refine WN E G I z u A v B w h fun D C t m R P q y f=>⟨m,y,fun J r=>?_⟩;obtain⟨O,N,S,M,L,K⟩:=f;exact⟨.ref D,R,P.turned (t':=t.toks) (fun b o F e=>(r.2 b F).trans e) O N M L K,rfl,q⟩
theorem FW{y:Str}{u:Pos}{k c:Expr}{d:List Expr}{own:List (Str×Nat)}{j l:Pos}{w:TI}{g:TG}{tt:TT}{te:TE}(hc:X.calm=true)(G:X.N.Nodup)(P:X.N[i]?=some y)(p:X.env.scope.names.lookup y=some .local)(E:swapsWith (.ListComp k [⟨tg,c,d,0⟩] scope j) (some (.Name y u)) l.line X.env=pure true)(U:PI X tg c w)(O:Jr X.N X.env.scope scope own)(W:∀(s:Shared)(H:Hp)(C:Addr)(t:List (Str×Addr))(r:List Addr),PG (X.QV s H scope (compEnvC scope t C X.env) r) tg g)(Q:∀(s:Shared)(H:Hp)(C:Addr)(t:List (Str×Addr))(r:List Addr),mZ (X.QV s H scope (compEnvC scope t C X.env) r) d tt)(Z:∀(s:Shared)(H:Hp)(C:Addr)(t:List (Str×Addr))(r:List Addr),PE (X.QV s H scope (compEnvC scope t C X.env) r) k te)(R:∀x,foldedSetIterable c X.env x=pure x:=by intro Y;rfl):PS X (.Assign [.Name y u] (.ListComp k [⟨tg,c,d,0⟩] scope j) l) (Ry (ny w g tt te (own.map (·.2))) (E6 i)):=by
 intro n s σ H D I h;rw[exec_Assign_Name_used _ _ _ _ E];refine za (xb (za ?_));show wpAny _ X.A (do
  let _<-comprehension (.ListComp k [⟨tg,c,d,0⟩] scope j) scope X.env (firstIterPos [⟨tg,c,d,0⟩] j) (newList []) false (eval c X.env) (some (assign (.Name y u) X.env))) _ _ s;have h:ny w g tt te (own.map (·.2)) σ H (fun x H1=>E6 i x σ H1 D.nx):=h;refine za (Bq (WN (Qf:=fun Y B=>SP X n D .next B) hc G I U O W Q Z R h fun L C B m H' I' q T f=>?_) fun Y B S=>zr (zr S));show wpAny _ _ (assign (.Name y u) X.env (.ref L)) _ _ _;refine wpAny_assign_Name (Ot (v:=V.ref L) I' G P (.inl p) rfl (fun N I2 ⟨a,M,ha⟩=>?_) (.inr p));obtain⟨f0,K,f2,f3,J,f5⟩:=f;have F:C≠a:=by
  rcases ha with z|z;·rw[z];exact K
  ·exact fun e=>J y a z e.symm
 refine⟨m,T.sameBut M F,fun h3 A=>?_⟩;exact⟨_,H',I2.turned (t':=N.toks) (fun b o hb e=>(A.2 b hb).trans e) f0 K f3 J f5,q⟩
theorem Ij{b:Expr}{j:List Comprehension}{a c:Pos}{y:Str}{l:Nat}{env:Env}(g:env.scope.kind= .function)(e:env.scope.names.lookup y=some .local)(f:(c.line==a.line)=true)(i:(scope.names.any fun(n,k)=>n==y&&(k== .local||k== .cell))=false):swapsWith (.ListComp b j scope a) (some (.Name y c)) l env=pure true:=by
 have d:env.kindOf y=some .local:=e;have h:env.blockKind= .function:=by unfold Env.blockKind;rw[g];rfl
 unfold swapsWith;simp only[h,d,i,Expr.pos,f];rfl
theorem bN{l:Int}{n:Nat}{g:TG}{r:TT}{te:TE}{h:List Nat}{σ:St}{u:Hp}{D:Addr}{t:Hp->Prop}(d:Nat->Hp->Prop)(A:d 0 (Av u D (.lst [])))(w:∀i H,i<n->d i H->g (.int (l+i)) (wipe σ h) H fun a q=>wipe a h=wipe σ h/\r a q fun b k=>if b=true then te a k fun y j=>∃c,j D=some (.lst c)/\c.length<sizeLine/\d (i+1) (Av j D (.lst (c++[y])))else d (i+1) k)(z:∀H,d n H->t H):∃W:Nat->Nat->Hp->Prop,(∃m,W 0 m (Av u D (.lst [])))/\∀i m H,W i m H->((gG l n).stop i H/\t H)\/((gG l n).go i H/\∃o:Hp->Prop,(∀f,o f->∃s,s<m/\W (i+1) s f)/\∀x f,(gG l n).Uj i H x f->g x (wipe σ h) f fun a q=>wipe a h=wipe σ h/\r a q fun b k=>if b=true then te a k fun y j=>∃c,j D=some (.lst c)/\c.length<sizeLine/\o (Av j D (.lst (c++[y])))else o k):=by
 exists fun i m H=>m=n-i/\i<=n/\d i H,⟨n,by simp,zx _,A⟩;rintro i m H ⟨rfl,B,p⟩;by_cases hlt:i<n;·refine .inr ⟨hlt,d (i+1),fun f v=>⟨n-(i+1),∅,rfl,hlt,v⟩,fun x f y=>?_⟩;obtain⟨e,y⟩:=y;subst e y;exact w i _ hlt p
 ·have e:i=n:=∅;subst e;exact .inl ⟨ze _,z H p⟩
theorem C_{K:Frag}{xs:List V}{g:TG}{r:TT}{te:TE}{j:List Nat}{σ:St}{u:Hp}{D:Addr}{t:Hp->Prop}(f:Nat->Hp->Prop)(C:f 0 (Av u D (.lst [])))(z:∀i H,i<=xs.length->f i H->AI K H a xs)(w:∀i x H,xs[i]?=some x->f i H->g x (wipe σ j) H fun c o=>wipe c j=wipe σ j/\r c o fun b l=>if b=true then te c l fun y k=>∃d,k D=some (.lst d)/\d.length<sizeLine/\f (i+1) (Av k D (.lst (d++[y])))else f (i+1) l)(B:∀H,f xs.length H->t H):∃W:Nat->Nat->Hp->Prop,(∃m,W 0 m (Av u D (.lst [])))/\∀i m H,W i m H->((iD K a).stop i H/\t H)\/((iD K a).go i H/\∃n:Hp->Prop,(∀h,n h->∃s,s<m/\W (i+1) s h)/\∀x h,(iD K a).Uj i H x h->g x (wipe σ j) h fun c o=>wipe c j=wipe σ j/\r c o fun b l=>if b=true then te c l fun y k=>∃d,k D=some (.lst d)/\d.length<sizeLine/\n (Av k D (.lst (d++[y])))else n l):=by
 exists fun i m H=>m=xs.length-i/\i<=xs.length/\f i H,⟨xs.length,by simp,zx _,C⟩;rintro i m H ⟨rfl,A,p⟩;have q:=z i H A p;by_cases hlt:i<xs.length;·refine .inr ⟨⟨xs,xs[i],q,by simp[hlt]⟩,f (i+1),fun h v=>⟨xs.length-(i+1),∅,rfl,hlt,v⟩,fun x h y=>?_⟩;obtain⟨e,y⟩:=y;subst e;exact w i x _ (y xs q) p
 ·have e:i=xs.length:=∅;subst e;exact .inl ⟨⟨xs,q,ze _⟩,B H p⟩
theorem bM{K:Frag}{xs:List V}{g:TG}{r:TT}{te:TE}{j:List Nat}{σ:St}{u:Hp}{D:Addr}{t:Hp->Prop}(f:Nat->Hp->Prop)(C:f 0 (Av u D (.lst [])))(z:∀i H,i<=xs.length->f i H->Em K H a xs)(w:∀i x H,xs[i]?=some x->f i H->g x (wipe σ j) H fun c o=>wipe c j=wipe σ j/\r c o fun b l=>if b=true then te c l fun y k=>∃d,k D=some (.lst d)/\d.length<sizeLine/\f (i+1) (Av k D (.lst (d++[y])))else f (i+1) l)(B:∀H,f xs.length H->t H):∃W:Nat->Nat->Hp->Prop,(∃m,W 0 m (Av u D (.lst [])))/\∀i m H,W i m H->((iB K a).stop i H/\t H)\/((iB K a).go i H/\∃n:Hp->Prop,(∀h,n h->∃s,s<m/\W (i+1) s h)/\∀x h,(iB K a).Uj i H x h->g x (wipe σ j) h fun c o=>wipe c j=wipe σ j/\r c o fun b l=>if b=true then te c l fun y k=>∃d,k D=some (.lst d)/\d.length<sizeLine/\n (Av k D (.lst (d++[y])))else n l):=by
 exists fun i m H=>m=xs.length-i/\i<=xs.length/\f i H,⟨xs.length,by simp,zx _,C⟩;rintro i m H ⟨rfl,A,p⟩;have q:=z i H A p;by_cases hlt:i<xs.length;·refine .inr ⟨⟨xs,xs[i],q,by simp[hlt]⟩,f (i+1),fun h v=>⟨xs.length-(i+1),∅,rfl,hlt,v⟩,fun x h y=>?_⟩;obtain⟨e,y⟩:=y;subst e;exact w i x _ (y xs q) p
 ·have e:i=xs.length:=∅;subst e;exact .inl ⟨⟨xs,q,ze _⟩,B H p⟩
def kF(N:List Str)(b scope:Scope)(a:List (Str×Nat)):Bool:=(match scope.kind with| .function=>true|_=>false)&&(scope.names.all fun y=>decide (scope.names.lookup y.1=some y.2))&&(a.all fun p=>decide (N[p.2]?=some p.1))&&(scope.names.all fun y=>match y.2 with
| .free=>(match b.names.lookup y.1 with|some .cell=>true|some .free=>true|_=>false)
| .local=>decide (y.1∈a.map (·.1)) ||decide (y.1∉N)
| .cell=>decide (y.1∈a.map (·.1)) ||decide (y.1∉N)
|_=>true)
theorem Jm{c:Scope}{a:List (Str×Nat)}(h:kF N c scope a=true):Jr N c scope a:=by
 unfold kF at h;simp only[zp,yq,zJ]at h;obtain⟨⟨⟨f,i⟩,g⟩,d⟩:=h;refine⟨?_,i,g,fun y b e=>?_,fun y b e=>?_⟩
 ·split at f;·assumption
  ·cases f
 ·have q:=d y b;simp only[e]at q;split at q<;>first|exact .inl (by assumption) |exact .inr (by assumption) |cases q
 ·have q:=d y b;rcases e with e|e<;>(simp only[e,yt,zJ]at q;exact q)
section
variable{w:World}{R:Result->Shared->Prop}{elt t0 i0 t1 i1:Expr}{ifs0 ifs1:List Expr}{pos:Pos}{it acc:Value}{env:Env}
end
section
variable{κ:Type}[DecidableEq κ]
def Ba(a:List (κ×V))(k:κ):Option V:=(a.find? fun b=>decide (b.1=k)).map (·.2)
def putK(a:List (κ×V))(k:κ)(v:V):List (κ×V):=if(a.any fun b=>decide (b.1=k))=true then a.map (fun b=>if b.1=k then(b.1,v)else b)else a++[(k,v)]
theorem Zj{k:κ}:Ba ([]:List (κ×V)) k=none:=rfl
theorem BY{p:κ×V}{r:List (κ×V)}{k:κ}(e:p.1=k):Ba (p::r) k=some p.2:=by simp[Ba,yn,e]
theorem BZ{p:κ×V}{r:List (κ×V)}{k:κ}(e:¬p.1=k):Ba (p::r) k=Ba r k:=by simp[Ba,yn,e]
theorem Ih(k:κ):∀a:List (κ×V),(a.any fun b=>decide (b.1=k))=(Ba a k).isSome
|[]=>rfl
|p::r=>by
 rw[vO];by_cases e:p.1=k;·simp only[BY e,zj e,Bool.true_or,rC]
 ·rw[BZ e,zo e,uH];exact Ih k r
theorem Rp(k j:κ)(y:V):∀a:List (κ×V),Ba (a.map fun b=>if b.1=k then(b.1,y)else b) j=(Ba a j).map fun x=>if j=k then y else x
|[]=>rfl
|p::r=>by
 have c:=Rp k j y r;rw[zH];by_cases h:p.1=k
 ·rw[zc h];by_cases e:p.1=j;·rw[BY (p:=(p.1,y)) e,BY e,yE,zc (e.symm.trans h)]
  ·rw[BZ (p:=(p.1,y)) e,BZ e,c]
 ·rw[zb h];by_cases e:p.1=j;·rw[BY (p:=p) e,BY e,yE,zb (fun z=>h (e.trans z))]
  ·rw[BZ (p:=p) e,BZ e,c]
theorem Oj(k j:κ)(y:V):∀a:List (κ×V),Ba a k=none->Ba (a++[(k,y)]) j=if j=k then some y else Ba a j
|[],_=>by
 by_cases e:k=j;·rw[zc e.symm];exact BY (p:=(k,y)) e
 ·rw[zb (fun z=>e z.symm)];exact BZ (p:=(k,y)) e
|p::r,b=>by
 rw[q0];have c:¬p.1=k:=fun z=>by rw[BY z]at b;cases b
 rw[BZ c]at b;have d:=Oj k j y r b;by_cases e:p.1=j;·rw[BY e,BY e,zb (fun z=>c (e.trans z))]
 ·rw[BZ e,BZ e,d]
theorem Ro(b:List (κ×V))(k j:κ)(y:V):Ba (putK b k y) j=if j=k then some y else Ba b j:=by
 unfold putK;by_cases a:(b.any fun c=>decide (c.1=k))=true
 ·rw[zc a,Rp];rw[Ih]at a;by_cases e:j=k;·obtain⟨x,d⟩:=tZ.mp a;rw[zc e,e,d,yE,zc rfl]
  ·rw[zb e];cases Ba b j with|none=>rfl|some x=>rw[yE,zb e]
 ·rw[zb a];refine Oj k j y b ?_;rw[Ih]at a;cases q:Ba b k with|none=>rfl|some x=>rw[q]at a;exact(a rfl).elim
theorem Gj(a:List (κ×V))(k:κ)(v:V):(putK a k v).length<=a.length+1:=by
 unfold putK;split;·rw[z3];lia
 ·rw[zd,zm,yQ];lia
theorem FK.JU{o:Option V}{u:Option Value}(r:FK o u):o.isSome=u.isSome:=by
 cases o with
 |none=>cases u with|none=>rfl|some _=>exact(show False from r).elim
 |some _=>cases u with|none=>exact(show False from r).elim|some _=>rfl
theorem FK.getD{o:Option V}{u:Option Value}{d:V}{a:Value}(r:FK o u)(b:AW d a):AW (o.getD d) (u.getD a):=by
 cases o with
 |none=>cases u with|none=>exact b|some _=>exact(show False from r).elim
 |some _=>cases u with|none=>exact(show False from r).elim|some _=>exact r
theorem KV.val{a:List (κ×V)}{f:List (κ×Value)}(r:KV a f)(k:κ):FK (Ba a k) (valueAt f k):=by
 unfold KV at r;induction r with
 |nil=>exact True.intro
 |@cons p q ps c h t i=>
  obtain⟨g,j⟩:=h;by_cases e:p.1=k
  ·have d:q.1=k:=g.symm.trans e;have b:valueAt (q::c) k=some q.2:=by simp[valueAt,yn,d]
   rw[BY e,b];exact j
  ·have d:¬q.1=k:=fun z=>e (g.trans z);have b:valueAt (q::c) k=valueAt c k:=by simp[valueAt,yn,d]
   rw[BZ e,b];exact i
theorem KV.any{a:List (κ×V)}{c:List (κ×Value)}(r:KV a c)(k:κ):(a.any fun b=>decide (b.1=k))=c.any fun b=>decide (b.1=k):=by unfold KV at r;induction r with|nil=>rfl|cons h t d=>rw[vO,vO,d,h.1]
theorem KV.jv{b:List (κ×V)}{d:List (κ×Value)}(r:KV b d)(k:κ){y:V}(f:AW y u):KV (b.map fun a=>if a.1=k then(a.1,y)else a) (d.map fun a=>if a.1=k then(a.1,u)else a):=by
 unfold KV at r|-;induction r with
 |nil=>exact .nil
 |@cons p q ps j h t g=>
  rw[zH,zH];refine .cons ?_ g;obtain⟨c,i⟩:=h;by_cases e:p.1=k;·rw[zc e,zc (c.symm.trans e)];exact⟨c,f⟩
  ·rw[zb e,zb (fun z=>e (c.trans z))];exact⟨c,i⟩
theorem KV.put{a:List (κ×V)}{b:List (κ×Value)}(r:KV a b)(k:κ){y:V}(c:AW y u):KV (putK a k y) (stored b k u):=by
 unfold putK stored;rw[r.any k];by_cases e:(b.any fun d=>decide (d.1=k))=true;·rw[zc e,zc e];exact r.jv k c
 ·rw[zb e,zb e];exact Paired.snoc r ⟨rfl,c⟩
theorem KV.length{a:List (κ×V)}{b:List (κ×Value)}(r:KV a b):a.length=b.length:=zE r
end
theorem SK{P:Program}{w:World}{k:Key}(r:AW (kV k) u):(BM P w).is k u=true:=by cases k with|inl i=>obtain⟨t,e⟩:=(show∃t,u=Value.int i t from r);subst e;exact Sz P w i t|inr x=>obtain⟨t,e⟩:=(show∃t,u=Value.str x t from r);subst e;exact Sy P w x t
theorem Pl{P:Program}{w:World}:∀{a:List Key}{us:List Value},AF (a.map kV) us->ItemsAre (BM P w) a us|[],_,r=>by rw[wk]at r;cases r;exact .nil|k::a,_,r=>by rw[zH]at r;cases r with|cons h t=>exact .cons (SK h) (Pl t)
abbrev KT(H:Hp):List (List Key×V)->List (List Key×Addr×Value)->Prop:=Paired fun p q=>p.1=q.1/\H q.2.1=some (.tup (p.1.map kV))/\AW p.2 q.2.2
theorem KT.val{H:Hp}{a:List (List Key×V)}{xs:List (List Key×Addr×Value)}(r:KT H a xs)(k:List Key):FK (Ba a k) ((atKey xs k).map (·.2)):=by
 induction r with
 |nil=>exact True.intro
 |@cons p q ps c h t g=>
  obtain⟨f,Y,i⟩:=h;by_cases e:p.1=k
  ·have d:q.1=k:=f.symm.trans e;have b:atKey (q::c) k=some q.2:=by simp[atKey,yn,d]
   rw[BY e,b];exact i
  ·have d:¬q.1=k:=fun z=>e (f.trans z);have b:atKey (q::c) k=atKey c k:=by simp[atKey,yn,d]
   rw[BZ e,b];exact g
theorem KT.jv{H:Hp}{a:List (List Key×V)}{xs:List (List Key×Addr×Value)}(r:KT H a xs)(k:List Key){y:V}(f:AW y u):KT H (a.map fun c=>if c.1=k then(c.1,y)else c) (xs.map (putAt k u)):=by
 induction r with
 |nil=>exact .nil
 |@cons p q ps j h t g=>
  rw[zH,zH];refine .cons ?_ g;obtain⟨b,d,i⟩:=h;unfold putAt;by_cases e:p.1=k;·rw[zc e,zc (b.symm.trans e)];exact⟨b,d,f⟩
  ·rw[zb e,zb (fun z=>e (b.trans z))];exact⟨b,d,i⟩
theorem KT.put{H:Hp}{a:List (List Key×V)}{xs:List (List Key×Addr×Value)}(r:KT H a xs)(k:List Key){y:V}(f:H b=some (.tup (k.map kV)))(c:AW y u):KT H (putK a k y) (storedH xs k b u):=by
 have e:(a.any fun d=>decide (d.1=k))=(atKey xs k).isSome:=by rw[Ih,(r.val k).JU,rM]
 unfold putK storedH;rw[e];by_cases q:(atKey xs k).isSome=true;·rw[zc q,zc q];exact r.jv k c
 ·rw[zb q,zb q];exact Paired.snoc r ⟨rfl,f,c⟩
theorem KT.keeps{H d:Hp}{a:List (List Key×V)}{xs:List (List Key×Addr×Value)}(r:KT H a xs)(e:∀b c,H b=some (.tup c)->d b=some (.tup c)):KT d a xs:=Paired.fM r fun Y Y z=>⟨z.1,e _ _ z.2.1,z.2.2⟩
section
variable{P:Program}{w:World}{H:Hp}{h:Heap}
theorem hB{u:HO}(b:FL P w H h)(e:Rd H a u):B6 P w H h a u:=e.ok b
theorem P6{b:List (Key×V)}(d:FL P w H h)(e:Rd H a (.dK b)):b.length<=sizeLine/\(a==sysModules)=false/\∃c,KV b c/\h.DictOf (BM P w) a c:=show B6 P w H h a (.dK b)from hB d e
theorem mW{b:List (Key×V)}(d:FL P w H h)(e:H a=some (.dK b)):b.length<=sizeLine/\(a==sysModules)=false/\∃c,KV b c/\h.DictOf (BM P w) a c:=P6 d (.inl e)
theorem JT{b:List Key}(d:FL P w H h)(e:H a=some (.tup (b.map kV))):(tupleKind (BM P w)).is h b a:=by obtain⟨Y,c,r,o,i,g,n,f⟩:=(show B6 P w H h a (.tup (b.map kV))from d a _ e);exact⟨o,c.toArray,n,i,g,f,‹Pl r›⟩
theorem P5{b:List (List Key×V)}(f:FL P w H h)(e:Rd H a (.dT b)):b.length<=sizeLine/\(a==sysModules)=false/\∃xs,KT H b xs/\h.DictOfH (tupleKind (BM P w)) a xs:=by
 obtain⟨z,y,xs,r,o,v,A,u,s,n,k,j⟩:=(show B6 P w H h a (.dT b)from hB f e);refine⟨z,y,xs,r,o,v,A,u,s,n,k,fun x c=>?_,j⟩;have d:∀{l:List (List Key×V)}{m:List (List Key×Addr×Value)},KT H l m->∀x∈m,(tupleKind (BM P w)).is h x.1 x.2.1:=by
  intro l m q;induction q with
  |nil=>intro x c;exact nomatch c
  |@cons p q ps B g t i=>
   intro x c;rcases zw.mp c with e|c;·subst e;exact JT f (by rw[<-g.1];exact g.2.1)
   ·exact i x c
 exact d r x c
theorem ik{b:List (List Key×V)}(c:FL P w H h)(e:H a=some (.dT b)):b.length<=sizeLine/\(a==sysModules)=false/\∃xs,KT H b xs/\h.DictOfH (tupleKind (BM P w)) a xs:=P5 c (.inl e)
end
def CO(H:Hp)(a:Addr)(y:V)(r:Option V):Prop:=(∃c k,Rd H a (.dK c)/\y=kV k/\r=Ba c k)\/∃c k b,Rd H a (.dT c)/\y= .ref b/\H b=some (.tup (k.map kV))/\r=Ba c k
def Rf(H:Hp)(a:Addr)(y v:V)(d:Hp):Prop:=(∃c k,H a=some (.dK c)/\y=kV k/\c.length<sizeLine/\d=Av H a (.dK (putK c k v)))\/∃c k b,H a=some (.dT c)/\y= .ref b/\H b=some (.tup (k.map kV))/\c.length<sizeLine/\d=Av H a (.dT (putK c k v))
theorem CO.k{H:Hp}{b:List (Key×V)}{k:Key}(e:H a=some (.dK b)):CO H a (kV k) (Ba b k):= .inl ⟨b,k,.inl e,rfl,rfl⟩
theorem CO.t{H:Hp}{c:List (List Key×V)}{k:List Key}(e:H a=some (.dT c))(d:H b=some (.tup (k.map kV))):CO H a (.ref b) (Ba c k):= .inr ⟨c,k,b,.inl e,rfl,d,rfl⟩
theorem Rf.k{H:Hp}{b:List (Key×V)}{k:Key}{v:V}(e:H a=some (.dK b))(c:b.length<sizeLine):Rf H a (kV k) v (Av H a (.dK (putK b k v))):= .inl ⟨b,k,e,rfl,c,rfl⟩
theorem Rf.t{H:Hp}{c:List (List Key×V)}{k:List Key}{v:V}(e:H a=some (.dT c))(f:H b=some (.tup (k.map kV)))(d:c.length<sizeLine):Rf H a (.ref b) v (Av H a (.dT (putK c k v))):= .inr ⟨c,k,b,e,rfl,f,d,rfl⟩
section
variable{σ:St}{H:Hp}{y v:V}{r:Value}{o:Option V}
theorem As.nS(I:As X pins σ H s):sysModules<s.heap.objs.size:=by have h:mainGlobals<s.heap.objs.size:=(I.mod.glob.keeps I.bk).lt;exact ue ⋯ h
theorem YG(x:A.units+1<cLine)(I:As X pins σ H s)(g:CO H a y (some v))(t:AW y u)(h:∀f r,As X pins σ H r->AW v f->Q f r):wpAny (model X.prog X.w) A (getItem (.ref a) u) Q E s:=by
 rcases g with⟨i,k,e,n,l⟩ |⟨i,k,b,e,n,D,l⟩;·subst n;obtain⟨z,C,w,d,q⟩:=P6 I.Bw e;obtain⟨f,j,c⟩:=FK.some_of (v:=v) (o:=valueAt w k) (by rw[l];exact d.val k);exact wpAny_getItem_of (SK t) q.mapOf j (h f _ (I.tok _) c)
 ·subst n;cases(show u=Value.ref b from t);obtain⟨z,C,xs,d,q⟩:=P5 I.Bw e;obtain⟨f,j,c⟩:=FK.some_of (v:=v) (o:=(atKey xs k).map (·.2)) (by rw[l];exact d.val k);obtain⟨p,B,m⟩:=zy.mp j;refine wpAny_getItem_heap (vU x) (JT I.Bw D) q B ?_;rw[m];exact h f _ (I.tok _) c
theorem gu(p:A.units+1<cLine)(I:As X pins σ H s)(g:CO H a y o)(n:AW y u)(h:∀m,As X pins σ H m->Q (.bool (!o.isSome)) m):wpAny (model X.prog X.w) A (compareOp .NotIn u (.ref a)) Q E s:=by
 rcases g with⟨d,k,e,i,l⟩ |⟨d,k,b,e,i,r,l⟩;·subst i;obtain⟨z,f,t,c,j⟩:=P6 I.Bw e;refine wpAny_notIn_of (SK n) f j.mapOf ?_;rw[<-(c.val k).JU,<-l];exact h _ (I.tok _)
 ·subst i;cases(show u=Value.ref b from n);obtain⟨z,f,xs,c,j⟩:=P5 I.Bw e;refine wpAny_notIn_heap (vU p) (JT I.Bw r) f j ?_;have q:=(c.val k).JU;rw[rM]at q;rw[<-q,<-l];exact h _ (I.tok _)
theorem QK{c:Heap}{ob:HO}(I:As X pins σ H s)(f:iA (H a))(g:Heap.SameBut a s.heap c)(h:∃q,c.get? a=some q)(d:B6 X.prog X.w (Av H a ob) c a ob):As X pins σ (Av H a ob) {s with heap:=c,toks:=t'}:=I.write (x:=a) (e:=a) f (.inl rfl) (fun b q i z=>(g.2 b i).trans z) h d
theorem kq{P:Program}{w:World}{h:Hp}{e:Heap}{b:List (Key×V)}{c:List (Key×Value)}(z:b.length<=sizeLine)(f:(a==sysModules)=false)(d:KV b c)(g:e.DictOf (BM P w) a c):B6 P w h e a (.dK b):=⟨z,f,c,d,g⟩
theorem YC{K:Hp}{Q:Unit->Shared->Prop}(M:A.units+1<cLine)(I:As X pins σ H s)(g:Rf H a y v K)(C:AW y u)(D:AW v r)(h:∀B,As X pins σ K B->Q () B):wpAny (model X.prog X.w) A (setItem (.ref a) u r) Q E s:=by
 rcases g with⟨f,k,e,t,l,w⟩ |⟨f,k,b,e,t,J,l,w⟩
 ·subst t w;obtain⟨z,p,L,d,x⟩:=mW I.Bw e;have m:L.length<=sizeLine:=by rw[<-d.length];exact z
  have o:(putK f k v).length<=sizeLine:=by have:=Gj f k v;lia
  refine wpAny_setItem_pairs (hsz:=m) (SK C) x fun F i n=>h _ ?_;have N:∃q,F.get? a=some q:=let⟨q,_,_,j,_⟩:=i;⟨q,j⟩;exact QK I (by rw[e];exact True.intro) n N (kq o p (d.put k D) i)
 ·subst t w;cases(show u=Value.ref b from C);obtain⟨z,p,xs,d,x⟩:=ik I.Bw e;have m:xs.length<=sizeLine:=by rw[<-zE d];exact z
  have o:(putK f k v).length<=sizeLine:=by have:=Gj f k v;lia
  refine wpAny_setItem_heap (hsz:=m) (vU M) (JT I.Bw J) x fun F i n=>h _ ?_;obtain⟨q,T,U,j,S,R,P,Y,O⟩:=i;refine QK I (by rw[e];exact True.intro) n ⟨q,j⟩ ⟨o,p,_,(d.put k J D).keeps fun c V G=>?_,q,T,U,j,S,R,P,O⟩;rw[Ac (Ss G e (fun z=>nomatch z))];exact G
end
section
variable{σ:St}{H:Hp}{kvs:List (Key×V)}{k:Key}
end
def nj(i:Expr):Prop:=∀a b,subscripted i false a b=operate [a,b] (getItem a b)
theorem dW{w:World}{env:Env}{b a:Expr}{k:Pos}{T m:String}(p:typeLookup (.type T) "__getitem__"=pure (some (.builtin m)))(n:nj a)(h:wpAny (model prog w) A (eval b env) (fun o f=>wpAny (model prog w) A (eval a env) (fun i c=>c.TypeIs o T/\wpAny (model prog w) A (getItem o i) Q E c) E f) E s):wpAny (model prog w) A (eval (.Subscript b a k) env) Q E s:=by
 refine Subscript_ (yG h (fun o f j=>yG j (fun i c d=>?_) fun Y Y x=>x) fun Y Y x=>x);obtain⟨l,d⟩:=d;unfold subscriptTail;refine za ?_;rw[getitemInPython_of_ne l.not_modules];refine za (wpAny_specialOf l p ?_);have fin:wpAny (model prog w) A (subscripted a false o i) (fun r e=>wpAny (model prog w) A (letTemporaryGo b o r>>=fun Y=>pure r) Q E e) E c:=by rw[n o i];exact wpAny_operating (yG d (fun r e g=>za (wpAny_letTemporaryGo (zr g))) fun Y Y x=>x)
 first|exact zr (za fin) |exact za (zr (za fin)) |exact za fin
theorem T8{X:Cx}{c:List (Addr×Obj)}{σ:St}{H:Hp}{y:V}{o:Option V}(I:As X c σ H s)(g:CO H a y o):s.TypeIs (.ref a) "dict":=by
 rcases g with⟨d,k,e,Y,Y⟩ |⟨d,k,b,e,Y,Y,Y⟩;·obtain⟨Y,Y,h,Y,f⟩:=P6 I.Bw e;exact f.typeIs
 ·obtain⟨Y,Y,xs,Y,f⟩:=P5 I.Bw e;exact f.typeIs
inductive Zr(Q:VK)(x:V)(y:V)(H2:Hp):Prop|mk(a v:_):x= .ref a->CO H2 a y (some v)->Q v H2->Zr Q x y H2
def Zs(b a:TE):TE:=fun σ H Q=>b σ H fun x c=>a σ c (Zr Q x)
def dU(c d:TE):TE:=fun σ H Q=>c σ H fun y e=>d σ e fun x b=>∃a o,x= .ref a/\CO b a y o/\Q (.bl (!o.isSome)) b
def RQ(e c d:TE):TS:=fun D σ H=>d σ H fun v h=>e σ h fun x g=>c σ g fun y f=>∃a b,x= .ref a/\Rf f a y v b/\D.nx σ b
section
variable{i value:Expr}{pos pos' tpos:Pos}{td ty tv:TE}
theorem A8(m:X.A.units+1<cLine)(p:PE X o td)(q:PE X i ty)(n:nj i:=by exact fun Y Y=>rfl):PE X (.Subscript o i pos) (Zs td ty):=by intro b s σ H Q I h;refine dW PySem.F.slot_dict_getitem.lookup n (Bq (p b s σ H _ I h) fun u e ⟨x,z,t,j,l⟩=>Bq (q b e σ z _ t l) fun D C ⟨y,w,d,f,a,v,ex,g,k⟩=>?_);subst ex;obtain rfl:u=Value.ref a:=j;exact⟨T8 d g,YG m d g f fun A B r c=>⟨v,w,r,c,k⟩⟩
theorem OU(l:X.A.units+1<cLine)(n:PE X i ty)(m:PE X o td):PC X .NotIn i o (dU ty td):=by intro b s σ H Q I h;refine Bq (n b s σ H _ I h) fun A c ⟨y,v,r,d,j⟩=>Bq (m b c σ v _ r j) fun u z ⟨x,t,q,e,a,k,ex,g,f⟩=>?_;subst ex;obtain rfl:u=Value.ref a:=e;exact gu l q g d fun w p=>⟨.bl (!k.isSome),t,p,rfl,f⟩
theorem CV(p:X.A.units+1<cLine)(t:PE X o td)(w:PE X i ty)(n:PE X value tv)(q:swapsWith value (some (.Subscript o i pos')) pos.line X.env=pure false):PS X (.Assign [.Subscript o i pos'] value pos) (RQ td ty tv):=by intro b s σ H D I h;refine wpAny_Assign_Subscript (Bq (n b s σ H _ I h) fun r d ⟨v,G,C,j,m⟩=>Bq (t b d σ G _ C m) fun u c ⟨x,F,B,f,l⟩=>Bq (w b c σ F _ B l) fun L K ⟨y,M,A,e,a,E,ex,g,k⟩=>?_) q;subst ex;obtain rfl:u=Value.ref a:=f;exact YC p A g e j fun J z=>⟨σ,E,z,k⟩
end
theorem cN{P:Program}{w:World}{H:Hp}(h:Heap)(a:sysModules<h.objs.size):B6 P w H (h.push {cls:= .type "dict",data:= .dict #[]}) h.objs.size (.dK []):=⟨zx _,zL.mpr (zN (zV a)),[],.nil,Heap.DictOf.new h⟩
theorem cM{P:Program}{w:World}{H:Hp}(h:Heap)(a:sysModules<h.objs.size):B6 P w H (h.push {cls:= .type "dict",data:= .dict #[]}) h.objs.size (.dT []):=⟨zx _,zL.mpr (zN (zV a)),[],.nil,_,#[],0,zM _ rfl,⟨rfl,rfl,rfl⟩,rfl,rfl,wa⟩
def iV:TE:=fun Y H Q=>∀p,H p=none->Q (.ref p) (Av H p (.dK []))
section
variable{pos:Pos}
theorem Si:PE X (.Dict [] [] pos) iV:=fun b s σ H Q I h=>wpAny_Dict_empty ⟨.ref s.heap.objs.size,_,I.laid (a:=s.heap.objs.size) (o:= .dK []) (t':=s.toks) (fun Y Y q=>zi _ q) (ze _) (cN s.heap I.nS),rfl,h _ (I.Bw.fresh (ze _))⟩
end
structure M2(X:Cx)(o:Expr)(m:Str)(apos:Pos)(e f:Expr)(cpos:Pos):Prop where
 base:attributeBase o m X.env (eval o X.env)=eval o X.env
 qV:((backTo cpos (starEach [e,f] X.env)).all (fun x=>!x.1)&&(backToKw cpos (keywordEach [] X.env)).all (fun x=>x.1.isSome)&&decide (([e,f]:List Expr).length+([]:List Keyword).length+(if([]:List Keyword).isEmpty then 0 else 1)<30))=true
 line:(apos.endLine==cpos.line)=true
 trees:backTo cpos (starEach [e,f] X.env)=[(false,eval e X.env),(false,eval f X.env)]
def qJ(H:Hp)(a:Addr):Prop:=(∃b,Rd H a (.dK b))\/∃b,Rd H a (.dT b)
theorem jP{X:Cx}{f:List (Addr×Obj)}{σ:St}{H:Hp}(I:As X f σ H s)(d:qJ H a):s.TypeIs (.ref a) "dict"/\(∀b,Value.ref a= .ref b->∃c,s.heap.get? b=some c/\c.dict=none)/\(a==sysModules)=false:=by
 rcases d with⟨h,e⟩ |⟨h,e⟩;·obtain⟨Y,i,l,Y,g⟩:=P6 I.Bw e;refine⟨g.typeIs,fun b q=>?_,i⟩;cases q;obtain⟨c,Y,Y,k,j,Y⟩:=g;exact⟨c,k,j.2.1⟩
 ·obtain⟨Y,i,xs,Y,g⟩:=P5 I.Bw e;refine⟨g.typeIs,fun b q=>?_,i⟩;cases q;obtain⟨c,Y,Y,k,j,Y⟩:=g;exact⟨c,k,j.2.1⟩
section
variable{σ:St}{H:Hp}{y d:V}{r:Value}{o:Option V}
theorem kv(v:A.units+1<cLine)(I:As X pins σ H s)(g:CO H a y o)(q:AW y u)(t:AW d r)(h:∀n p,As X pins σ H p->AW (o.getD d) n->Q n p):wpAny (model X.prog X.w) A (call (.builtin "dict.get") [.ref a,u,r]) Q E s:=by
 rcases g with⟨i,k,e,m,l⟩ |⟨i,k,b,e,m,w,l⟩;·subst m;obtain⟨z,j,x,c,f⟩:=P6 I.Bw e;refine call_meetsIn uu f.typeIs sv (sr _ _ _) (meets_dict_get_default (BM X.prog X.w) a (SK q) j r) ⟨_,f.mapOf,h _ _ (I.tok _) ?_⟩;rw[l];exact(c.val k).getD t
 ·subst m;cases(show u=Value.ref b from q);obtain⟨z,j,xs,c,f⟩:=P5 I.Bw e;refine call_meetsIn uu f.typeIs sv (sr _ _ _) (meetsH_dict_get_default (tupleKind (BM X.prog X.w)) a b j r) ⟨vU v,k,xs,JT I.Bw w,f,h _ _ (I.tok _) ?_⟩;rw[l];exact(c.val k).getD t
end
def iW(f d e:TE):TE:=fun σ H Q=>f σ H fun x c=>∃a,x= .ref a/\qJ c a/\d σ c fun y g=>e σ g fun z b=>∃o,CO b a y o/\Q (o.getD z) b
section
variable{f:Expr}{cpos:Pos}{td ty tx:TE}
theorem aM(A:X.A.units+1<cLine)(B:PE X o td)(D:PE X e ty)(C:PE X f tx)(m:M2 X o "get" apos e f cpos):PE X (.Call (.Attribute o "get" apos) [e,f] [] cpos) (iW td ty tx):=by intro b s σ H Q I h;refine wpAny_Call_method m.base m.qV m.line PySem.F.plainAttrs_dict uu PySem.F.type_dict_get (Bq (B b s σ H _ I h) fun u n ⟨x,L,i,r,a,ex,d,w⟩=>?_);subst ex;obtain rfl:u=Value.ref a:=r;obtain⟨k,j,Y⟩:=jP i d;exists k,j;rw[m.trees];refine uC rfl (qr (vX (Bq (D b n σ L _ i w) fun R l ⟨y,K,G,q,v⟩=>vX (Bq (C b l σ K _ G v) fun S O ⟨z,J,F,p,P,g,t⟩=>tQ ?_))));exact kv A F g q p fun M N E c=>⟨_,J,E,c,t⟩
end
section
variable{σ:St}{H:Hp}{kvs:List (Key×V)}
end
section
variable{σ:St}{H:Hp}{y:V}
end
section
variable{w:World}
end
section
variable{σ:St}{H:Hp}{h':Heap}
theorem As.Lp{ch:List Addr}(I:As X pins σ H s)(k:∀b o,b∉ch->s.heap.get? b=some o->h'.get? b=some o)(d:∀b∈ch,Cf X pins H b):As X pins σ H {s with heap:=h',toks:=t'}:=by
 have f:∀b u,H b=some u->b∉ch:=fun b u e z=>by have q:=(d b z).1;rw[q]at e;cases e
 refine I.step (g':=s.gens) (d':=s.drawn) (ch:=ch) (fun b g=>⟨(d b g).2.2.2.1,(d b g).2.1,(d b g).2.2.2.2.1,(d b g).2.2.2.2.2⟩) (fun b o Y Y a e Y=>k b o a e) (fun b o Y Y a e Y=>⟨o.slots,k b o a e⟩) (fun Y Y Y Y n=>n) (fun b o a e=>⟨o,k b o a e⟩) (fun Y Y e=>e) (fun Y Y Y e=>e) (fun b ps e=>⟨#[],by rw[e];simp⟩) (fun m i=>?_) (fun b u e=>?_) I.bare;·obtain⟨o,j,l,h,r⟩:=i;exact⟨o,j,l,k _ o (fun z=>(d _ z).2.1 rfl) h,r⟩
 ·refine(I.Bw b u e).Im (fun c v a q=>k c v ?_ q) (fun Y q=>q) fun Y Y q=>q;rcases a with z|z;·rw[z];exact f b u e
  ·exact f c _ z
theorem As.Jy{ch:List Addr}{T:Addr}{i:HO}(I:As X pins σ H s)(k:∀b o,b∉ch->s.heap.get? b=some o->h'.get? b=some o)(f:∀b∈ch,Cf X pins H b)(l:s.heap.objs.size<=T)(j:B6 X.prog X.w (Av H T i) h' T i):As X pins σ (Av H T i) {s with heap:=h',toks:=t'}:=by
 have h:H T=none:=I.Bw.fresh l;have g:∀b u,H b=some u->b∉ch:=fun b u e z=>by have q:=(f b z).1;rw[q]at e;cases e
 refine I.step (g':=s.gens) (d':=s.drawn) (ch:=ch) (fun b d=>⟨(f b d).2.2.2.1,(f b d).2.1,(f b d).2.2.2.2.1,(f b d).2.2.2.2.2⟩) (fun b o Y Y a e Y=>k b o a e) (fun b o Y Y a e Y=>⟨o.slots,k b o a e⟩) (fun b o Y e n=>?_) (fun b o a e=>⟨o,k b o a e⟩) (fun b xs e=>?_) (fun b o u e=>?_) (fun b ps e=>⟨#[],?_⟩) (fun m t=>?_) (fun b u e=>?_) I.bare;·rw[Ac (zV (zF (zA e) l))];exact n
 ·rw[Ac (Ab e h)];exact e
 ·rw[Ac (Ab e h)];exact e
 ·rw[Ac (Ab e h),e];simp
 ·obtain⟨o,w,x,p,r⟩:=t;exact⟨o,w,x,k _ o (fun z=>(f _ z).2.1 rfl) p,r⟩
 ·by_cases d:b=T;·subst d;rw[Aa]at e;cases e;exact j
  ·rw[Ac d]at e;refine(I.Bw b u e).Im (fun c v a q=>k c v ?_ q) (fun c q=>by rw[Ac (Ab q h)];exact q) fun c xs q=>by rw[Ac (Ab q h)];exact q
   rcases a with z|z;·rw[z];exact g b u e
   ·exact g c _ z
theorem As.lock{d:Addr}{u:HO}(I:As X pins σ H s)(h:H d=some u)(c:iA (some u)):∃a,As X pins σ (Av H d (.Hw a u)) s:=by
 have x:=I.Bw d u h;have ex:∃a,s.heap.get? d=some a:=by cases u with|lst xs=>obtain⟨Y,Y,Y,Y,e⟩:=x;exact⟨_,e⟩ |dK g=>obtain⟨Y,Y,Y,Y,o,Y,Y,e,Y⟩:=x;exact⟨o,e⟩ |dT g=>obtain⟨Y,Y,Y,Y,o,Y,Y,e,Y⟩:=x;exact⟨o,e⟩ |set S n=>obtain⟨o,Y,Y,Y,e,Y⟩:=x;exact⟨o,e⟩ |ins C k j=>obtain⟨Y,Y,Y,e,Y⟩:=x;exact⟨_,e⟩ |ext i=>obtain⟨Y,⟨Y,e⟩,Y⟩:=x;exact⟨_,e⟩ |_=>exact False.elim c
 obtain⟨a,e⟩:=ex;have f:B6 X.prog X.w (Av H d (.Hw a u)) s.heap d (.Hw a u):=by
  refine⟨e,x.Im (fun b v Y q=>q) (fun b q=>?_) fun b xs q=>?_⟩;·rw[Ac (fun z=>by rw[z,h]at q;cases q;exact c)];exact q
  ·rw[Ac (fun z=>by rw[z,h]at q;cases q;exact c)];exact q
 exact⟨a,I.write (x:=d) (e:=d) (t':=s.toks) (h':=s.heap) (by rw[h];exact c) (.inl rfl) (fun b v Y q=>q) ⟨a,e⟩ f⟩
theorem As.mw{d:Addr}{u:HO}(I:As X pins σ H s)(h:H d=some u)(c:iA (some u)):∀b a,X.H_0 d≠some (.Hw b a):=fun b a e=>by have q:=I.base.frzs d b a e;rw[h]at q;cases q;exact c
theorem As.unlock{d:Addr}{l:Obj}{u:HO}(I:As X pins σ H s)(h:H d=some (.Hw l u))(w:∀i g,X.H_0 d≠some (.Hw i g)):As X pins σ (Av H d u) s:=by
 have a:∀b o,H b=some o->(∀i g,o≠ .Hw i g)->b≠d:=fun b o e j z=>by rw[z,h]at e;cases e;exact j _ _ rfl
 have f:∀b,H b=none->b≠d:=fun b e z=>by rw[z,h]at e;cases e
 refine⟨I.ok,I.os,I.bare,⟨I.base.keep,I.base.slot,fun b o e n k=>?_,I.base.there,fun b xs e=>?_,fun b o x e=>?_,fun b ps e=>?_⟩,I.loc,I.cell,?_,fun x c e=>?_,fun p t=>?_,fun b o e=>?_,I.len⟩;·rw[Ac (f b (I.base.free b o e n k))];exact I.base.free b o e n k
 ·have q:=I.base.tups b xs e;rw[Ac (a b _ q (fun Y Y z=>nomatch z))];exact q
 ·have q:=I.base.frzs b o x e;rw[Ac (fun z=>by rw[z]at e;exact w _ _ e)];exact q
 ·obtain⟨m,q⟩:=I.base.tbls b ps e;exact⟨m,by rw[Ac (a b _ q (fun Y Y z=>nomatch z))];exact q⟩
 ·rw[Ac (f _ I.free)];exact I.free
 ·rw[Ac (f c (I.CM x c e))];exact I.CM x c e
 ·obtain⟨e,n,r⟩:=I.pin p t;exact⟨e,by rw[Ac (f _ n)];exact n,r⟩
 ·by_cases hb:b=d;·rw[hb,Aa]at e;cases e;rw[hb];obtain⟨Y,x⟩:=I.Bw d _ h;exact x.Im (fun c v Y q=>q) (fun c q=>by rw[Ac (a c _ q (fun Y Y z=>nomatch z))];exact q) fun c xs q=>by rw[Ac (a c _ q (fun Y Y z=>nomatch z))];exact q
  ·rw[Ac hb]at e;exact(I.Bw b o e).Im (fun c v Y q=>q) (fun c q=>by rw[Ac (a c _ q (fun Y Y z=>nomatch z))];exact q) fun c xs q=>by rw[Ac (a c _ q (fun Y Y z=>nomatch z))];exact q
end
def iU(t:TE):TE:=fun σ H Q=>∃d u,H d=some u/\iA (some u)/\∀a,t σ (Av H d (.Hw a u)) fun v b=>b d=some (.Hw a u)/\Q v (Av b d u)
theorem ff{t:TE}(h:PE X e t):PE X e (iU t):=by intro a s σ H Q I b;obtain⟨d,u,f,c,b⟩:=b;obtain⟨g,k⟩:=I.lock f c;refine Bq (h a s σ _ _ k (b g)) fun v l ⟨x,m,j,r,i,q⟩=>?_;exact⟨x,_,j.unlock i (I.mw f c),r,q⟩
theorem UQ{a:List (Addr×Obj)}{σ:St}{H:Hp}{R:It->Hp->Prop}{J:It}{c:Nat->Heap->Prop}{tk:Nat}(I:As X a σ H s)(o:Obj)(T:Turn X.prog X.w X.K tg J [s.heap.objs.size] s.heap.objs.size c)(d:c 0 (s.heap.push o))(q:R J H):pK X a σ tg R (.ref s.heap.objs.size) {s with heap:=s.heap.push o,toks:=tk}:=by refine⟨s.heap.objs.size,[s.heap.objs.size],c,J,H,rfl,I.kept fun b g e=>zi _ e,T,d,fun b f=>?_,q⟩;have e:b=s.heap.objs.size:=‹f›;subst e;exact I.JZ (ze _) (I.Bw.fresh (ze _))
def nk(a c:Int)(n:Nat):It:=⟨fun i Y=>i<n,fun i H x b=>b=H/\x= .int (a+(i:Nat)*c),fun i Y=>n<=i⟩
theorem Rt{P:Program}{w:World}{K:Frag}(f:Addr)(l c:Int)(n:Nat):Turn P w K tg (nk l c n) [f] f (fun i h=>IsRangeIter h f (l+(i:Nat)*c) ((n:Int)-(i:Nat)) c)where
 mem:=by simp
 obj:=fun i h a b g=>by have e:b=f:=‹g›;subst e;exact⟨_,a,fun v z=>nomatch z⟩
 keep:=fun i h p a k=>k f (by simp) _ a
 item:=by intro X x q y u i d s σ H E I m a r;subst x q y;obtain⟨G,F,N,D,C,B⟩:=m f (by simp);have W:=Walks.range (prog:=X.prog) (w:=X.w) (I.ok.hd u) f l c n;refine W.item i s _ _ r a fun v p J M j L=>?_;obtain⟨t,rfl⟩:=M;have R:As X d σ H {s with heap:=p,toks:=J}:=I.turned (fun b o g e=>L b o ‹g› e) G F D C B;exact⟨_,rfl,Tn (s:={s with heap:=p,toks:=J}) (n:="range_iterator") j rfl rfl ⋯ ⟨.int (l+(i:Nat)*c),H,R,⟨t,rfl⟩,⟨rfl,rfl⟩,j,fun b g=>(m b g).1⟩⟩
 done:=by intro X x q y u i d s σ H E I m a r;subst x q y;obtain⟨G,F,N,D,C,B⟩:=m f (by simp);exact rS (I.ok.hd u) a (by have:n<=i:=r;lia) fun p O=>⟨rfl,I.turned (t':=s.toks) (fun b o g e=>O b o g e) G F D C B⟩
 self:=fun A i s Q E a h=>rV a h
def nU(i j c:Int)(n:Nat):Prop:=c≠0/\c.natAbs<1073741824/\Builtin.Range.small i j c=true/\Builtin.Range.rangeSize i j c=n
theorem nU.neg{i j:Int}(d: -(2^62)<=i)(b:i<2^62)(c: -(2^62)<=j)(a:j<2^62):nU i j (-1) (i-j).toNat:=⟨⋯,⋯,PySem.W.small_down d b c a,PySem.W.rangeSize_downNat i j⟩
def mD(b:TA):TI:=fun σ H R=>b σ H fun a d=>∃(i j c:Int)(n:Nat),a=[.int i,.int j,.int c]/\nU i j c n/\R (nk i c n) d
theorem XJ{a b c:Expr}{w:TA}{p f:Pos}(C:Gl X "range")(B:X.mg "range"=none)(D:PA X [a,b,c] w)(A:starEach [a,b,c] X.env=(false,eval a X.env)::starEach [b,c] X.env:=by rfl)(v:(backTo f (starEach [b,c] X.env)).any (·.1)=false:=by rfl):PI X tg (.Call (.Name "range" p) [a,b,c] [] f) (mD w):=by
 intro d s σ H R I h;refine Call_ (Gm I C B boot_range (yK (Bq (D f d s σ H _ I h) fun us l ⟨P,O,N,x,z⟩=>?_) A v));obtain⟨i,j,k,n,e,⟨L,K,J,G⟩,q⟩:=z;subst e;cases x with
 |cons r g=>
  cases g with
  |cons y g=>
   cases g with
   |cons u g=>
    cases g;obtain⟨t,rfl⟩:=r;obtain⟨t',rfl⟩:=y;obtain⟨m,rfl⟩:=u;refine call_range_3 L ?_ (.inl (sy K));refine wpAny_pyIter_range (IsRange.new ..) J ?_;have M:As X d σ O {l with heap:=l.heap.push {cls:= .type "range",data:= .fields #[.int i t,.int j t',.int k m]}}:=N.kept (t':=l.toks) fun b o e=>zi _ e;refine UQ (tk:=l.toks) M _ (Rt _ i k n) ?_ q;have F:i+((0:Nat):Int)*k=i:=by simp
    have E:(n:Int)-((0:Nat):Int)=Builtin.Range.rangeSize i j k:=by rw[G];simp
    show IsRangeIter _ _ (i+((0:Nat):Int)*k) ((n:Int)-((0:Nat):Int)) k;rw[F,E];exact zM _ rfl
theorem Vu{h c:Int}{n:Nat}{g:TG}{k:TS}{D:Ends}{σ:St}{H:Hp}(d:Nat->St->Hp->Prop)(s:d 0 σ H)(q:∀i σ H,i<n->d i σ H->g (.int (h+(i:Nat)*c)) σ H fun a j=>k {D with nx:=d (i+1),ct:=d (i+1),bk:=D.nx} a j)(r:∀σ H,d n σ H->D.nx σ H):∃W:Nat->Nat->St->Hp->Prop,(∃m,W 0 m σ H)/\∀i m σ H,W i m σ H->((nk h c n).stop i H/\D.nx σ H)\/((nk h c n).go i H/\∃N:St->Hp->Prop,(∀b f,N b f->∃l,l<m/\W (i+1) l b f)/\∀x f,(nk h c n).Uj i H x f->g x σ f fun a j=>k {D with nx:=N,ct:=N,bk:=D.nx} a j):=by
 exists fun i m σ H=>m=n-i/\i<=n/\d i σ H,⟨n,by simp,zx _,s⟩;rintro i m σ H ⟨rfl,t,p⟩;by_cases hlt:i<n;·refine .inr ⟨hlt,d (i+1),fun b f o=>⟨n-(i+1),∅,rfl,hlt,o⟩,fun x f y=>?_⟩;obtain⟨e,y⟩:=y;subst e y;exact q i σ _ hlt p
 ·have e:i=n:=∅;subst e;exact .inl ⟨ze _,r σ H p⟩
def iC(x:Str):It:=⟨fun i Y=>i<x.cps.size,fun i H v a=>a=H/\∃c,x.cps[i]?=some c/\v= .str ⟨#[c]⟩,fun i Y=>x.cps.size<=i⟩
theorem Rr{P:Program}{w:World}{K:Frag}(f:Addr)(x:Str)(t:Tok)(m:String)(g:m="str_ascii_iterator"\/m="str_iterator"):Turn P w K tg (iC x) [f] f (fun i h=>h.IsStrIter f m x t i)where
 mem:=by simp
 obj:=fun i h a b j=>by have e:b=f:=‹j›;subst e;obtain⟨o,e,c,d⟩:=a;exact⟨o,e,fun v z=>by rw[d]at z;cases z⟩
 keep:=fun i h q a k=>let⟨o,ho,r⟩:=a;⟨o,k f (by simp) o ho,r⟩
 item:=by
  intro X O J R p i l s σ H E I y a M;subst O J R;obtain⟨G,F,f2,D,C,B⟩:=y f (by simp);have W:Walks X.prog X.w X.A f [f] [f] x.cps.size (SignAt x) (fun i h=>h.IsStrIter f m x t i):=by
   rcases g with e|e;·rw[e];exact Walks.strAscii (I.ok.hd p) f x t
   ·rw[e];exact Walks.strWide (I.ok.hd p) f x t
  have L:["enumerate","zip","dict_itemiterator","dict_reverseitemiterator","odict_iterator","itertools.zip_longest","itertools.pairwise"].contains m=false:=by
   rcases g with e|e;·rw[e];decide
   ·rw[e];decide
  refine W.item i s _ _ M a fun v q T Z n V=>?_;obtain⟨c,u,N,rfl⟩:=Z;have I1:As X l σ H {s with heap:=q,toks:=T}:=I.turned (fun b o j e=>V b o ‹j› e) G F D C B;obtain⟨oi,e,cc,dd⟩:=id n;exact⟨_,rfl,Tn (s:={s with heap:=q,toks:=T}) e cc dd L ⟨.str ⟨#[c]⟩,H,I1,⟨u,rfl⟩,⟨rfl,c,N,rfl⟩,n,fun b j=>(y b j).1⟩⟩
 done:=by
  intro X O J R p i l s σ H E I y a M;subst O J R;obtain⟨G,F,f2,D,C,B⟩:=y f (by simp);have U:x.cps[i]?=none:=Array.getElem?_eq_none M;rcases g with e|e;·rw[e]at a;exact wpAny_pyNext_ascii_end (I.ok.hd p) a U fun q S=>⟨rfl,I.turned (t':=s.toks) (fun b o j e=>S b o j e) G F D C B⟩
  ·rw[e]at a;exact wpAny_pyNext_wide_end (I.ok.hd p) a U fun q S=>⟨rfl,I.turned (t':=s.toks) (fun b o j e=>S b o j e) G F D C B⟩
 self:=fun A i s Q E a h=>by
  rcases g with e|e;·rw[e]at a;exact wpAny_pyIter_striter_ascii a h
  ·rw[e]at a;exact wpAny_pyIter_striter_wide a h
def pj(te:TE):TI:=fun σ H R=>te σ H fun v a=>∃x,v= .str x/\R (iC x) a
theorem UP{X:Cx}{te:TE}(g:PE X e te):PI X tg e (pj te):=by
 intro a s σ H R I h;refine Bq (g a s σ H _ I h) fun v b ⟨y,i,d,f,x,ex,q⟩=>?_;subst ex;obtain⟨t,rfl⟩:=f;cases c:x.cps.all (· <128);·exact wpAny_pyIter_wide c (UQ (tk:=b.toks) d _ (Rr _ x t "str_iterator" (.inr rfl)) ⟨_,zM _ rfl,rfl,rfl⟩ q)
 ·exact wpAny_pyIter_ascii c (UQ (tk:=b.toks) d _ (Rr _ x t "str_ascii_iterator" (.inl rfl)) ⟨_,zM _ rfl,rfl,rfl⟩ q)
section
variable{w:World}
end
section
variable{σ:St}{H:Hp}{d:Addr}{o:Obj}
end
section
variable{P:Program}{w:World}{K:Frag}{d:Addr}{o:Obj}{es:Array DictEntry}{ep:Nat}
end
section
variable{td:TE}{cpos:Pos}
end
def iE(K:Frag)(a:Addr):It:=⟨fun i H=>∃(xs:List V)(x:V),AI K H a xs/\xs[i]?=some x,fun i H v b=>∃T x,v= .ref T/\H T=none/\b=Av H T (.tup [.int (i:Nat),x])/\∀xs,AI K H a xs->xs[i]?=some x,fun i H=>∃xs:List V,AI K H a xs/\xs.length<=i⟩
theorem Xw{P:Program}{w:World}{K:Frag}{kk:Nat}{t:Pos}(a e f:Addr):Turn P w K (.Tuple elts kk t) (iE K a) [e,f] e (fun i h=>(∃c,IsEnum h e f ((i:Nat):Int) c)/\h.IsListIter f a i/\e≠f)where
 mem:=by simp
 obj:=fun i h l b j=>by
  obtain⟨⟨c,g⟩,⟨o,O,U,hd⟩,Y⟩:=l;have e':b=e\/b=f:=‹j›;rcases e' with z|z;·rw[z];exact⟨_,g,fun v q=>nomatch q⟩
  ·rw[z];exact⟨o,O,fun v q=>by rw[hd]at q;cases q⟩
 keep:=fun i h h' l k=>let⟨⟨c,g⟩,hi,d⟩:=l;⟨⟨c,k e (by simp) _ g⟩,hi.at fun o q=>k f (by simp) o q,d⟩
 item:=by
  intro X Z N hK U i n s σ H E I D l S;subst Z N hK;obtain⟨⟨c,g⟩,m,d⟩:=l;obtain⟨xs,x,C,M⟩:=S;obtain⟨L,G,p,hz⟩:=I.list C;obtain⟨u,hu,ru⟩:=G.get M;have B:e<s.heap.objs.size:=zA g;have R:f<s.heap.objs.size:=by obtain⟨Y,q,Y⟩:=m;exact zA q
  refine wpAny_pyNext_enum_item g m p.isList (x:=u) ‹hu› d fun h' O y hT a0 hk=>?_;refine⟨_,rfl,vT (s:={s with heap:=h',toks:=s.toks+1}) O fun r T F=>?_⟩;have W:r.get? s.heap.objs.size=some {cls:= .type "tuple",data:= .seq #[.int i s.toks,u]}:=(F.2 _ (xl B)).trans hT;have J:B6 X.prog X.w (Av H s.heap.objs.size (.tup [.int (i:Nat),x])) r s.heap.objs.size (.tup [.int (i:Nat),x]):=⟨by show 2<=sizeLine;decide,[.int i s.toks,u],.cons ⟨_,rfl⟩ (.cons ru .nil),⟨_,W,rfl,_,rfl⟩⟩;have I1:As X n σ (Av H s.heap.objs.size (.tup [.int (i:Nat),x])) {s with heap:=r,toks:=s.toks+1}:=I.Jy (ch:=[e,f]) (fun b ob j q=>(F.2 b (fun z=>j (by simp[z]))).trans (hk b ob (fun z=>j (by simp[z])) (fun z=>j (by simp[z])) q)) D (ze _) J;refine⟨.ref s.heap.objs.size,_,I1,rfl,⟨_,x,rfl,I.Bw.fresh (ze _),rfl,fun ys hy=>by rw[I.SE hy C];exact M⟩,⟨⟨u,?_⟩,y.at fun o q=>(F.2 f (zN d)).trans q,d⟩,fun b j=>?_⟩;·have e1:((i+1:Nat):Int)=(i:Int)+1:=∅;rw[e1];exact T
  ·have V:b<s.heap.objs.size:=by
    have e':b=e\/b=f:=‹j›;rcases e' with z|z;·rw[z];exact B
    ·rw[z];exact R
   rw[Ac (zV V)];exact(D b j).1
 done:=by intro X Z N hK U i n s σ H E I D l S;subst Z N hK;obtain⟨⟨c,g⟩,m,d⟩:=l;obtain⟨xs,C,M⟩:=S;obtain⟨L,G,p,hz⟩:=I.list C;obtain⟨f0,f1,f2,f3,f4,f5⟩:=D f (by simp);have hl:=G.length;exact wpAny_pyNext_enum_end (I.ok.hd U) g m p.isList (by simp;lia) fun h' eb=>⟨rfl,I.turned (t':=s.toks) (fun b o j q=>eb b o j q) f0 f1 f3 f4 f5⟩
 self:=fun A i s Q E l h=>let⟨⟨_,g⟩,_⟩:=l;wq g h
def mJ(K:Frag)(d:TA):TI:=fun σ H R=>d σ H fun c b=>∃a xs,c=[.ref a]/\AI K b a xs/\R (iE K a) b
theorem Lz{X:Cx}{l:TA}{p g f:Pos}{w:Nat}(E:Gl X "enumerate")(C:X.mg "enumerate"=none)(G:PA X [e] l)(A:starEach [e] X.env=[(false,eval e X.env)]:=by rfl):PI X (.Tuple elts w f) (.Call (.Name "enumerate" p) [e] [] g) (mJ X.K l):=by
 intro d s σ H R I h;refine Call_ (Gm I E C boot_enumerate (yK (Bq (G g d s σ H _ I h) fun us c ⟨M,n,j,t,u⟩=>?_) A rfl));obtain⟨a,xs,ex,B,q⟩:=u;subst ex;cases t with
 |cons r o=>
  cases o;cases r;obtain⟨x,N,v,O⟩:=j.list B;refine call_enumerate_list v.isList fun J m k y D=>wq m ?_;have L:As X d σ n {c with heap:=J}:=j.kept (t':=c.toks) D;refine⟨c.heap.objs.size+1,[c.heap.objs.size+1,c.heap.objs.size],_,_,n,rfl,L,Xw a (c.heap.objs.size+1) c.heap.objs.size,⟨⟨.none,m⟩,k,vZ _⟩,fun b F=>?_,q⟩;have K:b=c.heap.objs.size+1\/b=c.heap.objs.size:=‹F›;have i:c.heap.objs.size<=b:=by
   rcases K with z|z;·rw[z];exact u_ _ _
   ·rw[z];exact ze _
  exact j.JZ i (j.Bw.fresh i)
end L2
namespace pR
open PySem PyProof.Rows
end pR
namespace TL
open PySem PySem.Builtin PySem.Builtin.Str PySem.StrLaws
abbrev tl(x:Str):List Nat:=x.cps.toList
theorem bJ(x:Str):x.length=(tl x).length:=by simp[tl,Str.length]
theorem cE{y:Str}(h:tl x=tl y):x=y:=Str.ext' (Array.toList_inj.mp h)
theorem Oo(x y:Str):tl (x++y)=tl x++tl y:=by show(x++y).cps.toList=_;rw[Str.cps_append,Array.toList_append]
def pre(S l:List Nat):Bool:=l.take S.length==S
theorem kJ{y:Str}(c:tl y≠[])(i:Nat):At x y x.length i↔pre (tl y) ((tl x).drop i)=true:=by
 have f:=bJ x;have a:=bJ y;constructor;·intro h;have b:=h.2;rw[subAt_eq,a]at b;exact b
 ·intro h;have e:((tl x).drop i).take (tl y).length=tl y:=eq_of_beq h;have d:=zT List.length e;rw[zO,yI]at d;have g:0<(tl y).length:=xF.mpr c;refine⟨∅,?_⟩;rw[subAt_eq,a];exact h
def EX(S:List Nat):List (List Nat)->List Nat|[]=>[] |[p]=>p|p::q::r=>p++(S++EX S (q::r))
theorem Es(y:Str):∀a:List Str,tl (Str.join y a)=EX (tl y) (a.map tl) |[]=>rfl|[_]=>rfl|x::z::r=>by show tl (x++y++Str.join y (z::r))=tl x++(tl y++EX (tl y) ((z::r).map tl));rw[Oo,Oo,Es y (z::r),zX]
theorem join_eq(y:Str)(a:List Str):Txt.join y a=Str.join y a:=glued_eq_join y a
end TL
namespace L2
open PySem PySem.Spec PyProof.Rows
theorem Fj:∀{a:List Str}{us:List Value},AF (a.map V.str) us->StrsAre us a|[],_,.nil=> .nil|y::a,_,.cons r t=>by obtain⟨k,rfl⟩:=r;exact .cons y k (Fj t)
section
variable{σ:St}{H:Hp}{Q:VK}
end
theorem GN:YW X "str.join" (fun x xs H Q=>∃a p,∃c:List Str,x= .str a/\xs=[.ref p]/\(AI X.K H p (c.map V.str)\/Em X.K H p (c.map V.str))/\(c.map (·.length)).sum+c.length*a.length<=16777216/\Q (.str (Txt.join a c)) H):=by
 intro f s σ H x xs v us Q I i e h;obtain⟨a,p,c,rfl,rfl,d,g,h⟩:=h;obtain⟨t,rfl⟩:=i;cases e with
 |cons j e=>
  cases e;cases j;rcases d with d|d;·obtain⟨b,r,⟨o,n,m,u,Y,q⟩,Y⟩:=I.list d;exact PyProof.Rows.join_list (items:=b.toArray) ⟨o,m,u,n,q⟩ (by rw[rj];exact Fj r) g fun t' k=>⟨.str _,H,I.tok k,⟨t',rfl⟩,h⟩
  ·obtain⟨b,r,l,Y⟩:=I.tuple d;exact PyProof.Rows.join_tuple (items:=b.toArray) l (by rw[rj];exact Fj r) g fun t' k=>⟨.str _,H,I.tok k,⟨t',rfl⟩,h⟩
theorem oX{d:String}{C:Str->Prop}{g:Str->V}(b:∀(a:Str)(t:Tok)(s:Shared)(Q:Value->Shared->Prop),C a->(∀(u:Value)(k:Nat),AW (g a) u->Q u {s with toks:=k})->wpX X (call (.builtin d) [.str a t]) Q X.xe s):YW X d (fun x xs H Q=>∃a,x= .str a/\xs=[]/\C a/\Q (g a) H):=by intro c s σ H x xs v us Q I e f h;obtain⟨a,rfl,rfl,i,h⟩:=h;obtain⟨t,rfl⟩:=e;cases f;exact b a t s _ i fun u k r=>⟨g a,H,I.tok k,r,h⟩
theorem HR:YW X "str.isdigit" (fun x xs H Q=>∃a,x= .str a/\xs=[]/\True/\Q (.bl (Txt.isdigit a)) H):=oX (C:=fun Y=>True) (g:=fun a=> .bl (Txt.isdigit a)) fun Y Y s Y Y h=>PySem.SC.isdigit (h _ s.toks rfl)
theorem Va:YW X "str.isalpha" (fun x xs H Q=>∃a,x= .str a/\xs=[]/\True/\Q (.bl (Txt.isalpha a)) H):=oX (C:=fun Y=>True) (g:=fun a=> .bl (Txt.isalpha a)) fun Y Y s Y Y h=>PySem.SC.isalpha (h _ s.toks rfl)
theorem Vb:YW X "str.isalnum" (fun x xs H Q=>∃a,x= .str a/\xs=[]/\True/\Q (.bl (Txt.isalnum a)) H):=oX (C:=fun Y=>True) (g:=fun a=> .bl (Txt.isalnum a)) fun Y Y s Y Y h=>PySem.SC.isalnum (h _ s.toks rfl)
theorem qQ{f:String}{g:Str->Str->V}(c:∀(a b:Str)(t u:Tok)(s:Shared)(Q:Value->Shared->Prop),(∀(v:Value)(k:Nat),AW (g a b) v->Q v {s with toks:=k})->wpX X (call (.builtin f) [.str a t,.str b u]) Q X.xe s):YW X f (fun x xs H Q=>∃a b,x= .str a/\xs=[.str b]/\Q (g a b) H):=by intro e s σ H x xs v us Q I i d h;obtain⟨a,b,rfl,rfl,h⟩:=h;obtain⟨t,rfl⟩:=i;cases d with|cons j d=>cases d;obtain⟨u,rfl⟩:=j;exact c a b t u s _ fun v k r=>⟨g a b,H,I.tok k,r,h⟩
theorem fD:YW X "str.find" (fun x xs H Q=>∃a b,x= .str a/\xs=[.str b]/\Q (.int (Txt.find a b)) H):=qQ (g:=fun a b=> .int (Txt.find a b)) fun Y Y Y Y s Y h=>PySem.SC.find (h _ (s.toks+1) ⟨_,rfl⟩)
theorem QT:FG X (.type "int") (fun xs H Q=>∃a n,xs=[.str a]/\PySem.intText? a=some n/\a.length<=640/\Q (.int n) H):=by intro c s σ H xs us Q I b h;obtain⟨a,n,rfl,e,f,h⟩:=h;cases b with|cons d b=>cases b;obtain⟨t,rfl⟩:=d;exact PySem.W.KIN.call_text e f ⟨.int n,H,I.tok _,⟨_,rfl⟩,h⟩
section
variable{to te:TE}
def qO(r:V->List V->Hp->VK->Prop)(b:TE):TE:=fun σ H Q=>b σ H fun x c=>(∃a,x= .str a)/\r x [] c Q
theorem Sh{l:String}{b:Str}{d j:Pos}{r:V->List V->Hp->VK->Prop}(slot:Slot "str" b l)(n:typeOf (.builtin l)=pure (.type "method_descriptor"))(i:YW X l r)(q:PE X o to)(g:attributeBase o b X.env (eval o X.env)=eval o X.env:=by rfl)(f:(d.endLine==j.line)=true:=by rfl):PE X (.Call (.Attribute o b d) [] [] j) (qO r to):=by intro c s σ H Q I h;refine PySem.Call_method0 g f (Bq (q c s σ H _ I h) fun v p ⟨x,w,u,m,k⟩=>?_);obtain⟨⟨a,rfl⟩,k⟩:=k;obtain⟨t,rfl⟩:=_root_.id m;exact⟨"str",_,yc,slot,n,sQ _ _ _,(fun Y e=>nomatch e),uC rfl (PySem.evalArgs_none (i c p σ w _ [] _ [] Q u m .nil k))⟩
end
theorem Fu:Ia X (compareOp .In) (fun x y H Q=>∃(c:Nat)(z:Str),x= .str ⟨#[c]⟩/\y= .str z/\Q (.bl (decide (c∈z.cps.toList))) H):=by intro a s σ H x y v u Q I d b h;obtain⟨c,z,rfl,rfl,q⟩:=h;obtain⟨t,rfl⟩:=d;obtain⟨t',rfl⟩:=b;exact PyProof.Rows.in_str (Bh I q (sk z c).symm)
theorem Dt:Ia X (compareOp .NotIn) (fun x y H Q=>∃(c:Nat)(z:Str),x= .str ⟨#[c]⟩/\y= .str z/\Q (.bl (!decide (c∈z.cps.toList))) H):=by intro a s σ H x y v u Q I d b h;obtain⟨c,z,rfl,rfl,q⟩:=h;obtain⟨t,rfl⟩:=d;obtain⟨t',rfl⟩:=b;exact PyProof.Rows.notIn_str (Bh I q (zT Bool.not (sk z c).symm))
theorem IsPart.raw{v:Value}{o:Option Int}(p:IsPart v o):∃l:Option (Int×Tok),v=partValue l/\l.map (·.1)=o:=by cases p with|none=>exact⟨none,rfl,rfl⟩ |int i t=>exact⟨some (i,t),rfl,rfl⟩
def TY(n d:Nat):Option Int->Int|none=>(d:Int) |some i=>max 0 (min (if i<0 then i+(n:Int)else i) (n:Int))
theorem TX(n d:Nat)(o:Option Int):TY n d o=((HT.CQ n d o:Nat):Int):=by
 cases o with
 |none=>rfl
 |some v=>
  show max (0:Int) (min (if v<0 then v+(n:Int)else v) (n:Int))=(((if v<0 then(v+(n:Int)).toNat else min v.toNat n):Nat):Int);by_cases hv:v<0;·simp only[zc hv];lia
  ·simp only[zb hv];lia
theorem X5(a b:Option Int)(n:Nat):Builtin.Str.strSliceIndices a b 1 n=sliceRange (TY n 0 a) (TY n n b) 1:=by
 have c:((1:Int)>0)=True:=by simp
 cases a<;>cases b<;>first|rfl|(simp only[Builtin.Str.strSliceIndices,TY,c,xj];rfl) |simp[Builtin.Str.strSliceIndices,TY]
theorem oh(a b:Option Int)(n:Nat):Builtin.Str.strSliceIndices a b 1 n=(List.range (HT.CQ n n b-HT.CQ n 0 a)).map (fun k=>HT.CQ n 0 a+k):=by
 rw[X5,TX,TX];generalize HT.CQ n 0 a=p;generalize HT.CQ n n b=q;simp only[sliceRange,show((1:Int)>0)=True from by simp,xj];by_cases hlt:(p:Int)<q
 ·have c:(((q:Int)-p+1-1)/1).toNat=q-p:=by first|lia|(simp;done) |(simp;lia)
  simp only[hlt,xj,c];refine y6 fun k Y=>?_;lia
 ·have:q-p=0:=∅;simp[hlt,this]
def DO(z:Str)(a b:Option Int):Str:=⟨((z.cps.toList.drop (HT.CQ z.length 0 a)).take (HT.CQ z.length z.length b-HT.CQ z.length 0 a)).toArray⟩
theorem Hj(z:Str)(a b:Option Int):PySem.StrLaws.sliceText z a b=DO z a b:=by
 have h:HT.CQ z.length 0 a<=z.length:=HT.ZU _ _ (zx _) _;have g:HT.CQ z.length z.length b<=z.length:=HT.ZU _ _ (ze _) _;have d:HT.CQ z.length 0 a<=max (HT.CQ z.length 0 a) (HT.CQ z.length z.length b):=Nat.le_max_left _ _;have c:max (HT.CQ z.length 0 a) (HT.CQ z.length z.length b)<=z.length:=Nat.max_le.mpr ⟨h,g⟩;have f:max (HT.CQ z.length 0 a) (HT.CQ z.length z.length b)-HT.CQ z.length 0 a=HT.CQ z.length z.length b-HT.CQ z.length 0 a:=∅;have e:Builtin.Str.strSliceIndices a b 1 z.length=Builtin.Str.strSliceIndices (some ((HT.CQ z.length 0 a:Nat):Int)) (some ((max (HT.CQ z.length 0 a) (HT.CQ z.length z.length b):Nat):Int)) 1 z.length:=by rw[PySem.StrLaws.strSliceIndices_plain d c,f,oh]
 have i:PySem.StrLaws.sliceText z a b=PySem.StrLaws.sliceText z (some ((HT.CQ z.length 0 a:Nat):Int)) (some ((max (HT.CQ z.length 0 a) (HT.CQ z.length z.length b):Nat):Int)):=by unfold PySem.StrLaws.sliceText;rw[e]
 rw[i,PySem.StrLaws.sliceText_nat z d c,f];rfl
theorem KO(z:Str)(a b:Option Int):(DO z a b).length<=z.length:=by show(((z.cps.toList.drop (HT.CQ z.length 0 a)).take (HT.CQ z.length z.length b-HT.CQ z.length 0 a)).toArray).size<=z.cps.size;rw[zI,zO,yI,xi];lia
def oK:V->Option Int->Option Int->Hp->VK->Prop:=fun x a b H Q=>∃z,x= .str z/\z.length<=sizeLine/\Q (.str (DO z a b)) H
theorem HH{X:Cx}:pI X oK:=by
 intro a s σ H x v n m p r o Q I g k pl i h;obtain⟨z,rfl,j,q⟩:=h;obtain⟨t,rfl⟩:=g;obtain⟨os,b,f,e⟩:=k;obtain⟨l,rfl,rfl⟩:=IsPart.raw pl;obtain⟨u,rfl,rfl⟩:=IsPart.raw i;exists"str",_,F.slot_str_getitem.lookup,sQ _ _ _;refine wpAny_getItem_str_slice (l:=l) (u:=u) (st:=none) ⟨os,b,f,e⟩ rfl ?_;have d:(PySem.StrLaws.sliceText z (l.map (·.1)) (u.map (·.1))).length<=sizeLine:=by rw[Hj];exact z_ (KO z _ _) j
 rw[<-Hj]at q;unfold PySem.StrLaws.sliceText at q d;show Made.post (if((1:Int)==1&&(Builtin.Str.strSliceIndices (l.map (·.1)) (u.map (·.1)) 1 z.length).length==z.length)=true then Made.val (.str z t)else Made.str ⟨((Builtin.Str.strSliceIndices (l.map (·.1)) (u.map (·.1)) 1 z.length).filterMap (z.cps[·]?)).toArray⟩) (EP X a σ Q) s;by_cases c:((1:Int)==1&&(Builtin.Str.strSliceIndices (l.map (·.1)) (u.map (·.1)) 1 z.length).length==z.length)=true;·rw[zc c]at q|-;exact⟨.str z,H,I,⟨t,rfl⟩,q⟩
 ·rw[zb c]at q d|-;exact⟨d,.str _,H,I.tok _,⟨_,rfl⟩,q⟩
end L2
namespace w4
open PySem PySem.W PySem.Calls PyProof.Rows
section
variable{w:World}{K:Frag}
end
end w4
namespace L2
open PySem PySem.Spec PyProof.Rows
def A0(s:Stmt)(j:Nat):Stmt:=match s with| .ClassDef _ _ _ a _ _ _ _ _ _ _=>a.getD j (.Pass ⟨0,0,0,0⟩) |_=> .Pass ⟨0,0,0,0⟩
def GZ(s:Stmt):Arguments:=match s with| .FunctionDef _ a _ _ _ _ _ _ _ _=>a|_=>{posonlyargs:=[],args:=[],vararg:=none,kwonlyargs:=[],kw_defaults:=[],kwarg:=none,defaults:=[]}
def DN(s:Stmt):List Stmt:=match s with| .FunctionDef _ _ b _ _ _ _ _ _ _=>b|_=>[]
def Ad(s:Stmt):Scope:=match s with| .FunctionDef _ _ _ _ _ _ a _ _ _=>a|_=>{kind:= .function,names:=[],isGenerator:=false,isCoroutine:=false}
abbrev PM:Ib:=fun Y Y Y Y Y Y=>False
abbrev E0:XK:=fun Y Y Y=>False
theorem Ar{X:Cx}:Cy PM X E0:=fun Y Y Y Y Y Y Y h=>h.elim
structure En(K:Frag)(x qual:Str)(st:Stmt)(f:Addr)(fd:FuncData):Prop where
 ex:∃(oc:Value)(od:Option Addr)(kV doc pm:Value)(an:Option Addr)(cdv ct:Value)(osl:Array (Option Value)),fd=fnOf x qual (GZ st) (DN st) (Ad st) .none kV doc pm an cdv ct/\K.lookup f=some ⟨oc,od,.func fd,osl⟩/\codeIn K cdv qual=true
 kp:keepIn K (.ref f)=true
section
variable{P:Program}{w:World}{K:Frag}{mg:Str->Option Value}{base:Heap}
theorem En.ok{d:Stmt}{f:Addr}{k:Nat}{e:Sp}(F:En K x qual d f fd)(S:Ah N ps (Ad d))(a:∀{b:Value}{A:Around}{outer:List Env}{s:Shared}{c:List V}(H:Hp)(Q:VK)(E:XK),AV k (A.deeper (envOfC qual (Ad d) s.heap.objs.size f b))->e c H Q E->∃t,Ri (Jh PM P w K mg base N qual (Ad d) f b A outer s H E).nJ (DN d) t/\t {nx:=fun Y p=>Q .Bz p,rt:=Q} (start N c) H)(g:∀c H Q E,e c H Q E->c.length=ps.length:=by intro Y Y Y Y h;cases h;subst_vars;rfl):D9 P w K mg base PM (k+1) f fd ps e:=by obtain⟨v,u,y,o,r,z,b,ct,l,rfl,m,j⟩:=F.ex;refine ib m j S g fun A outer s H c Q E n i=>?_;obtain⟨t,h,q⟩:=a H Q E n i;exact⟨t,h.nJ,q⟩
theorem En.binds{c:Stmt}{f:Addr}(F:En K x qual c f fd)(h:∀(e a d:Value)(g:Option Addr)(b ct:Value)(us:List Value),us.length=ps.length->bindArgs (fnOf x qual (GZ c) (DN c) (Ad c) .none e a d g b ct) ⟨us,[]⟩=pure (ps.zip us)):Bm K fd ps []:=by obtain⟨l,k,e,a,d,g,b,ct,i,rfl,m,j⟩:=F.ex;exact .all (h e a d g b ct)
theorem cy{st:Stmt}{f:Addr}{j:Value}{i h:Option Addr}{d:Array (Option Value)}{g b e a ct:Value}(l:K.lookup f=some ⟨j,i,.func (fnOf x qual (GZ st) (DN st) (Ad st) .none g b e h a ct),d⟩)(c:codeIn K a qual=true)(k:keepIn K (.ref f)=true):En K x qual st f (fnOf x qual (GZ st) (DN st) (Ad st) .none g b e h a ct):=⟨⟨j,i,g,b,e,h,a,ct,d,rfl,l,c⟩,k⟩
end
theorem Gq{k:Nat}(a:AV k A):A.units+1<cLine:=y2 (Nat.add_le_add_left (⋯:1<=64) _) a.units
theorem pv(i:Nat){a:Pos}(e:X.N[i]?=some x:=by rfl)(c:lg X.env.scope x:=by first|exact Or.inl rfl|exact Or.inr (Or.inl rfl) |exact Or.inr (Or.inr rfl))(d:(x==("__debug__":Str))=false:=by decide)(b:(x==("__classdict__":Str))=false:=by decide):PE X (.Name x a) (Bi i):=jA e c d b
theorem Vh{A B:Prop}(h:B):if false=true then A else B:=by rw[zb zQ];exact h
theorem Yk{A B:Prop}(h:A):if true=true then A else B:=by rw[zc rfl];exact h
def Ap(H a:Hp):Prop:=∀b o,H b=some o->a b=some o
theorem Ap.refl(H:Hp):Ap H H:=fun Y Y h=>h
theorem Ap.trans{H e d:Hp}(a:Ap H e)(b:Ap e d):Ap H d:=fun c o h=>b c o (a c o h)
theorem Ap.free{H a:Hp}(e:Ap H a){l:Addr}(h:a l=Option.none):H l=Option.none:=by cases q:H l with|none=>rfl|some o=>rw[e l o q]at h;cases h
theorem Ap.seq{K:Frag}{H b:Hp}{xs:List V}(e:Ap H b)(h:AI K H a xs):AI K b a xs:=by
 rcases h with(h|⟨o,h⟩) |h;·exact .inl (.inl (e _ _ h))
 ·exact .inl (.inr ⟨o,e _ _ h⟩)
 ·exact .inr h
section
variable{κ:Type}[DecidableEq κ]
end
theorem at_of{xs:List V}{z:Int}{j:Nat}{v:V}(e:z=(j:Int))(h:xs[j]?=some v):YL xs z=some v:=by rw[e];exact AM h
end L2
namespace L2
open PySem PySem.Spec PyProof.Rows
open PySem.W (WData Codec OpenSpec Well WellAll ReadsW ReadsAllW)
mutual
inductive Dw(K:Frag)(H:Hp):V->WData->Prop|Bz:Dw K H .Bz .none|bl(b:Bool):Dw K H (.bl b) (.bool b) |int(i:Int):Dw K H (.int i) (.int i) |str(x:Str):Dw K H (.str x) (.str x) |Rh(b:Array UInt8):Dw K H (.Rh b) (.bytes b.toList) |lst{a:Addr}{xs:List V}{ds:List WData}:AI K H a xs->FF K H xs ds->Dw K H (.ref a) (.list ds) |tup{a:Addr}{xs:List V}{ds:List WData}:Em K H a xs->FF K H xs ds->Dw K H (.ref a) (.tuple ds)
inductive FF(K:Frag)(H:Hp):List V->List WData->Prop|nil:FF K H [] [] |cons{v:V}{vs:List V}{d:WData}{ds:List WData}:Dw K H v d->FF K H vs ds->FF K H (v::vs) (d::ds)
end
theorem Xd{K:Frag}{H:Hp}:∀a:List Int,FF K H (a.map V.int) (a.map WData.int) |[]=> .nil|n::r=> .cons (.int n) (Xd r)
theorem WQ{K:Frag}{H:Hp}:∀(a:List Int)(xs:List V),FF K H xs (a.map WData.int)->xs=a.map V.int|[],xs,h=>by cases h;rfl|n::r,xs,h=>by cases h with|cons c b=>cases c;rw[WQ r _ b]<;>rfl
section
variable{P:Program}{w:World}{K:Frag}{H:Hp}{h:Heap}{R:WRecords}{cl:Str->Option Addr}
theorem i_{xs:List V}(d:FL P w H h)(i:K.In h)(q:AI K H a xs):∃(b:List Value)(o:Obj)(n:Nat),AF xs b/\h.get? a=some o/\o.cls= .type "list"/\o.data= .seq b.toArray n:=by
 rcases q with q|⟨o,b,n,e,g,Y,f,Y,c⟩;·obtain⟨Y,b,n,c,e⟩:=(show B6 P w H h a (.lst xs)from q.ok d);exact⟨b,_,n,c,e,rfl,rfl⟩
 ·exact⟨b.toList,o,n,c,i _ _ e,g,by simp[f]⟩
theorem iZ{xs:List V}(d:FL P w H h)(i:K.In h)(q:Em K H a xs):∃(b:List Value)(o:Obj)(n:Nat),AF xs b/\h.get? a=some o/\o.cls= .type "tuple"/\o.data= .seq b.toArray n:=by
 rcases q with q|⟨o,b,n,e,g,f,Y,c⟩;·obtain⟨Y,b,c,o,e,g,n,f⟩:=(show B6 P w H h a (.tup xs)from q.ok d);exact⟨b,o,n,c,e,g,f⟩
 ·exact⟨b.toList,o,n,c,i _ _ e,g,by simp[f]⟩
mutual
theorem Dw.reads(Bw:FL P w H h)(KX:K.In h):∀(d:WData)(v:V)(u:Value),Dw K H v d->AW v u->∃as,ReadsW R cl h u d as
| .none,_,_,x,r=>by cases x;cases r;exact⟨_,ReadsW.none⟩
| .bool b,_,_,x,r=>by cases x;cases r;exact⟨_,ReadsW.bool b⟩
| .int i,_,_,x,r=>by cases x;obtain⟨t,rfl⟩:=r;exact⟨_,ReadsW.int i t⟩
| .str s,_,_,x,r=>by cases x;obtain⟨t,rfl⟩:=r;exact⟨_,ReadsW.str s t⟩
| .bytes b,_,_,x,r=>by cases x;obtain⟨t,rfl⟩:=r;exact⟨_,ReadsW.bytes _ t⟩
| .list ds,_,_,x,r=>by cases x with|lst hs ha=>cases r;obtain⟨its,o,n,rv,ho,hc,hd⟩:=i_ Bw KX hs;obtain⟨as,hr⟩:=Dw.readsAll Bw KX ds _ its ha rv;exact⟨_,ReadsW.list ho hc hd hr⟩
| .tuple ds,_,_,x,r=>by cases x with|tup hs ha=>cases r;obtain⟨its,o,n,rv,ho,hc,hd⟩:=iZ Bw KX hs;obtain⟨as,hr⟩:=Dw.readsAll Bw KX ds _ its ha rv;exact⟨_,ReadsW.tuple ho hc hd hr⟩
| .float _,_,_,x,_=>by cases x
| .dict _,_,_,x,_=>by cases x
| .bytearray _,_,_,x,_=>by cases x
| .set _,_,_,x,_=>by cases x
| .frozenset _,_,_,x,_=>by cases x
| .obj _ _,_,_,x,_=>by cases x
theorem Dw.readsAll(Bw:FL P w H h)(KX:K.In h):∀(ds:List WData)(vs:List V)(us:List Value),FF K H vs ds->AF vs us->∃as,ReadsAllW R cl h us ds as|[],_,_,x,r=>by cases x;cases r;exact⟨_,ReadsAllW.nil⟩ |d::ds,_,_,x,r=>by cases x with|cons h1 h2=>cases r with|cons r1 r2=>obtain⟨as,q1⟩:=Dw.reads Bw KX d _ _ h1 r1;obtain⟨bs,q2⟩:=Dw.readsAll Bw KX ds _ _ h2 r2;exact⟨_,ReadsAllW.cons q1 q2⟩
end
end
mutual
def WA:WData->Bool| .none=>true| .bool _=>true| .int _=>true| .str _=>true| .bytes _=>true| .list xs=>KZ xs| .tuple xs=>KZ xs|_=>false
def KZ:List WData->Bool|[]=>true|x::r=>WA x&&KZ r
end
theorem Sg{b:Type}{f:b->WData}(h:∀a,WA (f a)=true):∀l:List b,KZ (l.map f)=true|[]=>rfl|x::r=>by show(WA (f x)&&KZ (r.map f))=true;rw[h x,Sg h r]<;>rfl
theorem FZ:∀(c:Codec)(a:c.denote),WA (c.enc a)=true| .unit,_=>rfl| .bool,_=>rfl| .int _ _,_=>rfl| .nat _ _,_=>rfl| .u8,_=>rfl| .bytes _ _,_=>rfl| .text _ _ _ _,_=>rfl| .list _ _ c,a=>Sg (fun x=>FZ c x) a| .pair c d,a=>by show(WA (c.enc a.1)&&(WA (d.enc a.2)&&true))=true;rw[FZ c a.1,FZ d a.2]<;>rfl| .triple c d e,a=>by show(WA (c.enc a.1)&&(WA (d.enc a.2.1)&&(WA (e.enc a.2.2)&&true)))=true;rw[FZ c a.1,FZ d a.2.1,FZ e a.2.2]<;>rfl| .option c,none=>rfl| .option c,some x=>FZ c x
theorem OR:∀(b:List Codec)(a:Codec.denoteAll b),KZ (Codec.encAll b a)=true|[],_=>rfl|c::b,a=>by show(WA (c.enc a.1)&&KZ (Codec.encAll b a.2))=true;rw[FZ c a.1,OR b a.2]<;>rfl
theorem HE:∀{xs:List WData}{d:WData},d∈xs->d.weight<=WData.weightAll xs
|[],d,h=>absurd h (by simp)
|x::r,d,h=>by
 show d.weight<=x.weight+1+WData.weightAll r;rcases zw.mp h with e|m;·rw[e];lia
 ·have z:=HE m;lia
def toV:Value->V| .none=> .Bz| .bool b=> .bl b| .int i _=> .int i| .str x _=> .str x| .bytes b _=> .Rh b| .ref a=> .ref a|_=> .Bz
def YU(A:List Addr):Value->Prop| .none=>True| .bool _=>True| .int _ _=>True| .str _ _=>True| .bytes _ _=>True| .ref a=>a∈A|_=>False
theorem YU.mono{A B:List Addr}(h:∀a∈A,a∈B):∀{u:Value},YU A u->YU B u:=fun{u} x=>by cases u with|ref a=>exact h a x|none=>trivial|bool b=>trivial|int i t=>trivial|str s t=>trivial|bytes b t=>trivial|_=>exact False.elim x
theorem ao{A:List Addr}(x:YU A u):AW (toV u) u:=by cases u with|ref a=>rfl|none=>rfl|bool b=>rfl|int i t=>exact⟨t,rfl⟩ |str s t=>exact⟨t,rfl⟩ |bytes b t=>exact⟨t,rfl⟩ |_=>exact False.elim x
theorem EF{A:List Addr}:∀{a:List Value},(∀u∈a,YU A u)->AF (a.map toV) a|[],_=> .nil|u::r,h=> .cons (ao (h u (zh ..))) (EF fun x b=>h x (zg _ b))
def FH(h:Heap)(A:List Addr)(a:Addr):Prop:=∃b:List Value,b.length<=sizeLine/\(∀u∈b,YU A u)/\(h.get? a=some {cls:= .type "list",data:= .seq b.toArray}\/h.get? a=some {cls:= .type "tuple",data:= .seq b.toArray})
theorem FH.mono{h:Heap}{A B:List Addr}(k:∀a∈A,a∈B)(x:FH h A a):FH h B a:=by obtain⟨b,f,e,d⟩:=x;exact⟨b,f,fun u c=>(e u c).mono k,d⟩
theorem Ep{P:Params}{h:Heap}:∀{a:List Value}{c:List WData},WellAll P h a c->a.length=c.length|_,_,.nil=>rfl|_,_,.cons _ b=>by show _+1=_+1;rw[Ep b]
theorem Oh{P:Params}{h:Heap}{v:Value}{d:List WData}(x:Well P h v (.list d)):∃(a:Addr)(c:List Value),v= .ref a/\h.get? a=some {cls:= .type "list",data:= .seq c.toArray}/\WellAll P h c d:=by cases x with|list e b=>exact⟨_,_,rfl,e,b⟩
theorem LK{P:Params}{h:Heap}{v:Value}{d:List WData}(x:Well P h v (.tuple d)):∃(a:Addr)(c:List Value),v= .ref a/\h.get? a=some {cls:= .type "tuple",data:= .seq c.toArray}/\WellAll P h c d:=by cases x with|tuple e b=>exact⟨_,_,rfl,e,b⟩
theorem Oi{P:Params}{h:Heap}{d:WData}{e:List WData}(x:WellAll P h us (d::e)):∃(v:Value)(c:List Value),us=v::c/\Well P h v d/\WellAll P h c e:=by cases x with|cons a b=>exact⟨_,_,rfl,a,b⟩
theorem WL{n:Nat}(h:n<=1048576):n<=sizeLine:=z_ h ⋯
section
variable{P:Params}{h:Heap}
mutual
theorem c_:∀(d:WData)(v:Value),Well P h v d->WA d=true->d.weight<=1048576->∃A:List Addr,YU A v/\∀a∈A,FH h A a
| .none,_,x,_,_=>by cases x;exact⟨[],we,fun a m=>absurd m (by simp)⟩
| .bool b,_,x,_,_=>by cases x;exact⟨[],we,fun a m=>absurd m (by simp)⟩
| .int i,_,x,_,_=>by cases x;exact⟨[],we,fun a m=>absurd m (by simp)⟩
| .str s,_,x,_,_=>by cases x;exact⟨[],we,fun a m=>absurd m (by simp)⟩
| .bytes b,_,x,_,_=>by cases x;exact⟨[],we,fun a m=>absurd m (by simp)⟩
| .list ds,_,x,p,z=>by
 obtain⟨a,vs,rfl,ho,hall⟩:=Oh x;have z2:WData.weightAll ds<=1048576:=z;obtain⟨A,h1,h2⟩:=Jn ds _ hall p fun d hd=>z_ (HE hd) z2;have k:∀b∈A,b∈a::A:=fun b hb=>zg _ hb;refine⟨a::A,zh ..,fun b hb=>?_⟩;rcases zw.mp hb with e|m;·rw[e];exact⟨vs,WL (by rw[Ep hall];exact z_ (tG ds) z2),fun u hu=>(h1 u hu).mono k,.inl ho⟩
 ·exact(h2 b m).mono k
| .tuple ds,_,x,p,z=>by
 obtain⟨a,vs,rfl,ho,hall⟩:=LK x;have z2:WData.weightAll ds<=1048576:=z;obtain⟨A,h1,h2⟩:=Jn ds _ hall p fun d hd=>z_ (HE hd) z2;have k:∀b∈A,b∈a::A:=fun b hb=>zg _ hb;refine⟨a::A,zh ..,fun b hb=>?_⟩;rcases zw.mp hb with e|m;·rw[e];exact⟨vs,WL (by rw[Ep hall];exact z_ (tG ds) z2),fun u hu=>(h1 u hu).mono k,.inr ho⟩
 ·exact(h2 b m).mono k
| .float _,_,_,p,_=>Bool.noConfusion (show false=true from p)
| .dict _,_,_,p,_=>Bool.noConfusion (show false=true from p)
| .bytearray _,_,_,p,_=>Bool.noConfusion (show false=true from p)
| .set _,_,_,p,_=>Bool.noConfusion (show false=true from p)
| .frozenset _,_,_,p,_=>Bool.noConfusion (show false=true from p)
| .obj _ _,_,_,p,_=>Bool.noConfusion (show false=true from p)
theorem Jn:∀(ds:List WData)(vs:List Value),WellAll P h vs ds->KZ ds=true->(∀d∈ds,d.weight<=1048576)->∃A:List Addr,(∀u∈vs,YU A u)/\∀a∈A,FH h A a
|[],_,x,_,_=>by cases x;exact⟨[],fun u m=>absurd m (by simp),fun a m=>absurd m (by simp)⟩
|d::ds,_,x,p,z=>by
 obtain⟨v,vs,rfl,x1,x2⟩:=Oi x;have q:WA d=true/\KZ ds=true:=ra.mp p;obtain⟨A,a1,a2⟩:=c_ d v x1 q.1 (z d (zh ..));obtain⟨B,b1,b2⟩:=Jn ds vs x2 q.2 fun e he=>z e (zg _ he);have kA:∀b∈A,b∈A++B:=fun b hb=>zD.mpr (.inl hb);have kB:∀b∈B,b∈A++B:=fun b hb=>zD.mpr (.inr hb);refine⟨A++B,fun u hu=>?_,fun b hb=>?_⟩
 ·rcases zw.mp hu with e|m;·rw[e];exact a1.mono kA
  ·exact(b1 u m).mono kB
 ·rcases zD.mp hb with m|m;·exact(a2 b m).mono kA
  ·exact(b2 b m).mono kB
end
end
def fV(o:Obj):Option HO:=match o.data with| .seq a _=>if(o.cls==Value.type "list")=true then some (.Hw o (.lst (a.toList.map toV)))else some (.Hw o (.tup (a.toList.map toV))) |_=>none
def F8(K:Frag)(h:Heap)(A:List Addr):Hp:=fun b=>if b∈A then(if(K.lookup b).isNone=true then(h.get? b).bind fV else none)else none
def Ug(H:Hp):Prop:=∀b,H b=none\/∃o u,H b=some (.Hw o u)
theorem SQ(a:List Value):fV {cls:= .type "list",data:= .seq a.toArray}=some (.Hw {cls:= .type "list",data:= .seq a.toArray} (.lst (a.map toV))):=by show(if(Value.type "list"==Value.type "list")=true then some (HO.Hw {cls:= .type "list",data:= .seq a.toArray} (.lst (a.toArray.toList.map toV)))else some (HO.Hw {cls:= .type "list",data:= .seq a.toArray} (.tup (a.toArray.toList.map toV))))=_;rw[zc (xG _)]
theorem SO(a:List Value):fV {cls:= .type "tuple",data:= .seq a.toArray}=some (.Hw {cls:= .type "tuple",data:= .seq a.toArray} (.tup (a.map toV))):=by show(if(Value.type "tuple"==Value.type "list")=true then some (HO.Hw {cls:= .type "tuple",data:= .seq a.toArray} (.lst (a.toArray.toList.map toV)))else some (HO.Hw {cls:= .type "tuple",data:= .seq a.toArray} (.tup (a.toArray.toList.map toV))))=_;rw[zb ⋯]
section
variable{P:Program}{w:World}{K:Frag}{h:Heap}{A:List Addr}
theorem LG{o:Obj}(c:b∈A)(a:K.lookup b=none)(e:h.get? b=some o):F8 K h A b=fV o:=by unfold F8;rw[zc c,a,zc (show(none:Option Obj).isNone=true from rfl),e]<;>rfl
theorem fw{u:HO}(q:F8 K h A b=some u):b∈A/\K.lookup b=none:=by
 unfold F8 at q;by_cases hb:b∈A;·rw[zc hb]at q;cases a:K.lookup b with|none=>exact⟨hb,rfl⟩ |some o=>rw[a,zb (by simp)]at q;cases q
 ·rw[zb hb]at q;cases q
theorem LD(k:∀a∈A,FH h A a){u:HO}(q:F8 K h A b=some u):K.lookup b=none/\∃c:List Value,c.length<=sizeLine/\(∀u∈c,YU A u)/\((h.get? b=some {cls:= .type "list",data:= .seq c.toArray}/\u= .Hw {cls:= .type "list",data:= .seq c.toArray} (.lst (c.map toV)))\/(h.get? b=some {cls:= .type "tuple",data:= .seq c.toArray}/\u= .Hw {cls:= .type "tuple",data:= .seq c.toArray} (.tup (c.map toV)))):=by
 obtain⟨f,d⟩:=fw q;obtain⟨c,j,i,g⟩:=k b f;exists d,c,j,i;rcases g with e|e;·rw[LG f d e,SQ]at q;exact .inl ⟨e,(zt q).symm⟩
 ·rw[LG f d e,SO]at q;exact .inr ⟨e,(zt q).symm⟩
theorem YM(c:∀a∈A,FH h A a):Ug (F8 K h A):=fun b=>by
 cases q:F8 K h A b with
 |none=>exact .inl rfl
 |some u=>
  obtain⟨Y,d,Y,Y,⟨Y,e⟩ |⟨Y,e⟩⟩:=LD c q;·exact .inr ⟨_,_,by rw[e]⟩
  ·exact .inr ⟨_,_,by rw[e]⟩
theorem gC(g:∀a∈A,FH h A a):FL P w (F8 K h A) h:=fun b u q=>by
 obtain⟨Y,c,f,d,⟨e,rfl⟩ |⟨e,rfl⟩⟩:=LD g q;·exact⟨e,by rw[z3];exact f,c,_,EF d,e⟩
 ·exact⟨e,by rw[z3];exact f,c,EF d,_,e,rfl,_,rfl⟩
theorem Lv{c b:Value}{a:List Value}(e:(some {cls:=c,data:= .seq a.toArray}:Option Obj)=some {cls:=b,data:= .seq us.toArray}):c=b/\a=us:=by have d:=zt e;have h:c=b:=zT Obj.cls d;have g:Data.seq a.toArray=Data.seq us.toArray:=zT Obj.data d;injection g with e4;refine⟨h,?_⟩;have f:=zT Array.toList e4;simpa using f
theorem pC(m:K.In h)(l:∀a∈A,FH h A a){b:List Value}(d:a∈A)(e:h.get? a=some {cls:= .type "list",data:= .seq b.toArray}):(∀u∈b,YU A u)/\AI K (F8 K h A) a (b.map toV):=by
 obtain⟨us,k,f,j⟩:=l a d;have i:us=b:=by
  rcases j with q|q;·rw[e]at q;exact(Lv q).2.symm
  ·rw[e]at q;exact absurd (Value.type.inj (Lv q).1) ⋯
 subst i;refine⟨f,?_⟩;cases c:K.lookup a with|none=>exact .inl (.inr ⟨_,by rw[LG d c e,SQ]⟩) |some o=>have g:=m a o c;rw[e]at g;obtain rfl:=zt g;exact .inr ⟨_,us.toArray,_,c,rfl,rfl,rfl,by rw[zI];exact k,‹EF f›⟩
theorem p9(m:K.In h)(l:∀a∈A,FH h A a){b:List Value}(d:a∈A)(e:h.get? a=some {cls:= .type "tuple",data:= .seq b.toArray}):(∀u∈b,YU A u)/\Em K (F8 K h A) a (b.map toV):=by
 obtain⟨us,k,f,j⟩:=l a d;have i:us=b:=by
  rcases j with q|q;·rw[e]at q;exact absurd (Value.type.inj (Lv q).1) ⋯
  ·rw[e]at q;exact(Lv q).2.symm
 subst i;refine⟨f,?_⟩;cases c:K.lookup a with|none=>exact .inl (.inr ⟨_,by rw[LG d c e,SO]⟩) |some o=>have g:=m a o c;rw[e]at g;obtain rfl:=zt g;exact .inr ⟨_,us.toArray,_,c,rfl,rfl,by rw[zI];exact k,‹EF f›⟩
mutual
theorem ko{Pm:Params}(KX:K.In h)(ar:∀a∈A,FH h A a):∀(d:WData)(v:Value),Well Pm h v d->WA d=true->YU A v->Dw K (F8 K h A) (toV v) d| .none,_,x,_,_=>by cases x;exact .Bz| .bool b,_,x,_,_=>by cases x;exact .bl b| .int i,_,x,_,_=>by cases x;exact .int i| .str s,_,x,_,_=>by cases x;exact .str s| .bytes b,_,x,_,_=>by cases x;have z:=Dw.Rh (K:=K) (H:=F8 K h A) b.toArray;exact z| .list ds,_,x,p,hu=>by obtain⟨a,vs,rfl,ho,hall⟩:=Oh x;obtain⟨h2,hs⟩:=pC KX ar hu ho;exact .lst hs (QI KX ar ds _ hall p h2) | .tuple ds,_,x,p,hu=>by obtain⟨a,vs,rfl,ho,hall⟩:=LK x;obtain⟨h2,hs⟩:=p9 KX ar hu ho;exact .tup hs (QI KX ar ds _ hall p h2) | .float _,_,_,p,_=>Bool.noConfusion (show false=true from p) | .dict _,_,_,p,_=>Bool.noConfusion (show false=true from p) | .bytearray _,_,_,p,_=>Bool.noConfusion (show false=true from p) | .set _,_,_,p,_=>Bool.noConfusion (show false=true from p) | .frozenset _,_,_,p,_=>Bool.noConfusion (show false=true from p) | .obj _ _,_,_,p,_=>Bool.noConfusion (show false=true from p)
theorem QI{Pm:Params}(KX:K.In h)(ar:∀a∈A,FH h A a):∀(ds:List WData)(vs:List Value),WellAll Pm h vs ds->KZ ds=true->(∀u∈vs,YU A u)->FF K (F8 K h A) (vs.map toV) ds|[],_,x,_,_=>by cases x;exact .nil|d::ds,_,x,p,hu=>by obtain⟨v,vs,rfl,x1,x2⟩:=Oi x;have q:WA d=true/\KZ ds=true:=ra.mp p;exact .cons (ko KX ar d v x1 q.1 (hu _ (zh ..))) (QI KX ar ds vs x2 q.2 fun u m=>hu u (zg _ m))
end
end
theorem X1{P:Program}{w:World}{K:Frag}{mg Q:Str->Option Value}{CX:Ib}{k:Nat}{fa:Addr}{sp:Sp}{a:Shared}{c:List Value}{y:List WData}{R:WRecords}{cl:Str->Option Addr}{d0:WData}(KX:K.In a.heap)(G:a.heap.Ns mainGlobals mg)(X:a.heap.Ns builtinsNs Q)(W:∀x:Str,x≠"__name__"->Q x=bootBuiltins x)(I:a.heap.NoLimit)(hg:a.gens=#[])(l:WellAll w.params a.heap c y)(E:KZ y=true)(S:∀d∈y,d.weight<=1048576)(hr:AV k callerA)(F:∀base:Heap,K.In base->base.Ns mainGlobals mg->D9 P w K mg base CX k fa fd ps sp)(t:∀(s:Shared)(us:List Value),us.length=ps.length->BindsTo s fd ⟨us,[]⟩ (ps.zip us))(J:y.length=ps.length)(T:∀(H:Hp)(xs:List V),Ug H->FF K H xs y->sp xs H (fun v H'=>Dw K H' v d0) fun Y Y Y=>False)(a0:∀H e g,CX [] H a (fun Y Y Y=>False) e g->False):codeAny (model P w) callerA (.call (.ref fa) ⟨c,[]⟩) (fun r g=>∃u as,r= .ok (.ret u)/\ReadsW R cl g.heap u d0 as/\OldK a.heap g.heap/\g.os=a.os/\AllBare g.gens) a:=by
 obtain⟨A,ho,O⟩:=Jn y c l E S;have Z:Ug (F8 K a.heap A):=YM O;have p:FL P w (F8 K a.heap A) a.heap:=gC O;have hS:=QI KX O y c l E ho;have hV:=EF ho;have hK:∀b u,F8 K a.heap A b=some u->K.lookup b=none:=fun b u q=>(LD O q).1;have D:∀{b:Addr}{o:Obj}{B:Array DictEntry}{C:Nat},a.heap.get? b=some o->o.data= .dict B C->F8 K a.heap A b=none:=fun{b o B C} e d=>by
  cases q:F8 K a.heap A b with
  |none=>rfl
  |some u=>
   obtain⟨Y,vs,Y,Y,⟨M,Y⟩ |⟨M,Y⟩⟩:=LD O q;·rw[M]at e;cases e;have d':Data.seq vs.toArray _=Data.dict B C:=d;cases d'
   ·rw[M]at e;cases e;have d':Data.seq vs.toArray _=Data.dict B C:=d;cases d'
 generalize F8 K a.heap A=H at Z p hS hK D;have f:∀{b:Addr}{o:Obj},a.heap.get? b=some o->H b=none->(Q2 a.heap H).get? b=some o:=fun e n=>bZ e n;have h:∀{b:Addr}{m:Str->Option Value},a.heap.Ns b m->(Q2 a.heap H).Ns b m:=fun{b m} ⟨o,B,C,e,d,r⟩=>⟨o,B,C,f e (D e d),d,r⟩;have nK:∀b o,K.lookup b=some o->H b=none:=fun b o e=>by cases q:H b with|none=>rfl|some u=>rw[hK b u q]at e;cases e
 have L:K.In (Q2 a.heap H):=fun b o e=>f (KX b o e) (nK b o e);have hM:Mod K mg (Q2 a.heap H):=⟨L,h G,⟨Q,h X,W⟩,let⟨mc,h1,h2⟩:=I;⟨mc,h h1,h2⟩⟩;have e0:Rb P w K mg (Q2 a.heap H) callerA [] a H:=⟨rfl,hM,fun b o e=>fv e,uU (Yn _ _),we,fun b X=>absurd (show b∈([]:List Addr)from X) (by simp),p,.of_eq hg⟩;have hl:c.length=ps.length:=by rw[Ep l];exact J
 refine wZ ((F _ L (h G)).run callerA [] a H ⟨c,[]⟩ c (c.map toV) _ _ hr e0 (t a c hl) hV (T H _ Z hS)) fun r g x=>?_;cases r with
 |error e=>exact(a0 H e g x).elim
 |ok fl=>
  cases fl with
  |next=>exact False.elim x
  |brk=>exact False.elim x
  |cont=>exact False.elim x
  |ret u=>
   obtain⟨v,H',os,N,un,j,r',q⟩:=x;have i:∀b o,a.heap.get? b=some o->g.heap.get? b=some o:=fun b o e=>by
    cases q2:H b with
    |none=>exact un.keep b o e q2 (by intro z;exact absurd (show b∈([]:List Addr)from z) (by simp)) (by simp)
    |some u2=>
     rcases Z b with z|⟨ob,u3,z⟩;·rw[q2]at z;cases z
     ·have z2:=un.frzs b ob _ z;obtain⟨e1,Y⟩:=p b _ z;obtain⟨M,Y⟩:=j b _ z2;rw[e]at e1;cases e1;exact M
   have a1:K.In g.heap:=fun b o e=>i b o (KX b o e);obtain⟨as,U⟩:=Dw.reads (R:=R) (cl:=cl) j a1 d0 v u q r';exact⟨u,as,rfl,U,OldK.of_keep i,os,N⟩
theorem MW{a:List WData}(h:WData.layableAll a=true):∀d∈a,d.weight<=1048576:=fun d b=>(PySem.W.layableW_iff.mp (yq.mp h d b)).2.2
theorem Nr:∀(b:List Codec)(a:Codec.denoteAll b),(Codec.encAll b a).length=b.length|[],_=>rfl|c::b,a=>by show(Codec.encAll b a.2).length+1=b.length+1;rw[Nr b a.2]
theorem Xp{r:OpenSpec}{k:Nat}{q:Program}{b:List Str}{XP:(Str->Option Value)->Heap->Prop}{C:World->Heap->Prop}{d:DefRec}{K:Params->Frag}{CX:World->Ib}{sp:World->Sp}(c:r.wellSaid=true)(P:d.params.defaults=[])(l:r.args.length=ps.length)(L:AV k callerA)(T:∀(w:World)(h:Heap),C w h->(K w.params).In h)(F:∀(w:World)(mg:Str->Option Value)(p:Addr)(h:Heap),C w h->(K w.params).In h->h.Ns mainGlobals mg->mg d.name=some (.ref p)->∃fd:FuncData,(∀(s:Shared)(us:List Value),us.length=ps.length->BindsTo s fd ⟨us,[]⟩ (ps.zip us))/\∀base:Heap,(K w.params).In base->base.Ns mainGlobals mg->D9 r.prog w (K w.params) mg base (CX w) k p fd ps (sp w))(x:∀(w:World)(H:Hp)(xs:List V)(a:Codec.denoteAll r.args),Ug H->Codec.withinAll r.args a=true->Codec.app r.args r.asked a=true->FF (K w.params) H xs (Codec.encAll r.args a)->sp w xs H (fun v H'=>Dw (K w.params) H' v (r.ret.enc (Codec.app r.args r.f a))) fun _ _ _=>False)(A:∀(w:World)(H:Hp)(s:Shared)(e:Value)(n:Shared),CX w [] H s (fun _ _ _=>False) e n->False):WalkOS q b XP C r d [] (fun f I=>PySem.call f I):=by intro w s_0 g mg mb G Y p o pm cd a0 dV kV ho hd Q hD y O args D as j m J t N;obtain⟨a,e1,e2⟩:=PySem.W.os_pre_some j;obtain⟨e3,i⟩:=Codec.encAll_of_decAll r.args args a e1;subst e3;have E:=T w _ Y;obtain⟨fd,S,X⟩:=F w mg p _ Y E G.T.g y;refine PySem.W.enter_call (wZ (X1 (R:=[]) (cl:=classAt s_0.heap) (d0:=r.ret.enc (Codec.app r.args r.f a)) E G.T.g G.T.b G.T.builtins G.T.nolimit O t (OR _ _) (MW m) L X S (by rw[Nr];exact l) (fun H xs W U=>x w H xs a W i e2 U) fun H e n=>A w H g e n) fun r' n M=>?_);obtain⟨u,B,rfl,h1,h2,h3,Z⟩:=M;exact⟨.inl ⟨u,_,B,rfl,fun _=>rfl,h1,(OpenSpec.post_iff c i _ _).mpr rfl,fun z=>Bool.noConfusion (show false=true from z)⟩,h2,h3,Z⟩
theorem Uo{r:OpenSpec}{k:Nat}{q:Program}{b:List Str}{B:(Str->Option Value)->Heap->Prop}{n:World->Heap->Prop}{d:DefRec}{K:Params->Frag}{CX:Ib}{sp:Frag->Sp}(c:r.wellSaid=true)(l:d.params.defaults=[])(g:r.args.length=ps.length)(t:AV k callerA)(u:∀(w:World)(h:Heap),n w h->(K w.params).In h)(F:∀(w:World)(mg:Str->Option Value)(o:Addr)(h:Heap),n w h->(K w.params).In h->h.Ns mainGlobals mg->mg d.name=some (.ref o)->∃fd:FuncData,(∀(s:Shared)(us:List Value),us.length=ps.length->BindsTo s fd ⟨us,[]⟩ (ps.zip us))/\∀base:Heap,(K w.params).In base->base.Ns mainGlobals mg->D9 r.prog w (K w.params) mg base CX k o fd ps (sp (K w.params)))(j:∀(K:Frag)(H:Hp)(xs:List V)(a:Codec.denoteAll r.args),Ug H->Codec.withinAll r.args a=true->Codec.app r.args r.asked a=true->FF K H xs (Codec.encAll r.args a)->sp K xs H (fun v C=>Dw K C v (r.ret.enc (Codec.app r.args r.f a))) fun Y Y Y=>False)(m:∀(H:Hp)(s:Shared)(e:Value)(i:Shared),CX [] H s (fun Y Y Y=>False) e i->False):WalkOS q b B n r d [] (fun f p=>PySem.call f p):=Xp (K:=K) (CX:=fun Y=>CX) (sp:=fun w=>sp (K w.params)) c l g t u F (fun w H xs a A z y x=>j (K w.params) H xs a A z y x) fun Y H s e i=>m H s e i
end L2
variable{H:L2.Hp}{σ:L2.St}{te:L2.TE}{xs:List L2.V}{g:L2.TG}
namespace L2
open PySem PySem.Spec PyProof.Rows PySem.Calls
open PySem.W (Frag Looks)
abbrev Ek(C t:Addr):Obj:={cls:= .ref C,data:= .fields #[.ref t,.none,.none,.none,.bool false,.none]}
abbrev Dg(l:List Value):Obj:={cls:= .type "tuple",data:= .seq l.toArray}
structure N7(M:Model)(h:Heap)(C:Addr):Prop where
 obj:∃od cd sl,h.get? C=some ⟨.type "type",od,.cls cd,sl⟩/\cd.hasDel=false/\cd.mro.isEmpty=false
 made:Looks M h (Bind.madeBy (.ref C)) (some "Exception.__new__")
 base:Looks M h (Bind.staticBase (.ref C)) (.ref C)
 self:Looks M h (isSubtype (.ref C) (.ref C)) true
 exc:Looks M h (isSubtype (.ref C) (.type "Exception")) true
 qX:Looks M h (isSubtype (.ref C) (.type "BaseException")) true
 nA:Looks M h (isSubtype (.ref C) (.type "AttributeError")) false
 nN:Looks M h (isSubtype (.ref C) (.type "NameError")) false
 call:Looks M h (specialOf (.ref C) "__call__") (some (.builtin "type.__call__"))
 typ:Looks M h (isInstance (.ref C) (.type "type")) true
def D7(K:Frag)(C:Addr):Bool:=match K.lookup C with|some ⟨.type "type",_,.cls a,b⟩=>!a.hasDel&&(b.toList[4]?).join==some (.builtin "Exception.__new__")&&!a.mro.isEmpty&&a.mro.contains (.ref C)&&a.mro.contains (.type "Exception")&&a.mro.contains (.type "BaseException")&&!a.mro.contains (.type "AttributeError")&&!a.mro.contains (.type "NameError")&&specialIn K (.ref C) "__call__"==some (some (.builtin "type.__call__"))&&instIn K (.ref C) (.type "type")==some true|_=>false
theorem GQ{K:Frag}{M:Model}{h:Heap}(X:K.In h)(e:D7 K C=true):N7 M h C:=by
 unfold D7 at e;split at e
 ·rename_i t d r i;simp only[zp,xD,zP]at e;obtain⟨⟨⟨⟨⟨⟨⟨⟨⟨F,D⟩,g⟩,B⟩,z⟩,y⟩,x⟩,w⟩,m⟩,j⟩:=e;have p:clsIn K C=some d:=by unfold clsIn;rw[i]
  have n:Looks M h (mroOf (.ref C)) d.mro:=(vb X p).andThen .now;obtain⟨c,l,o⟩:∃c l,d.mro=c::l:=by cases q:d.mro with|nil=>rw[q]at g;cases g|cons c l=>exact⟨c,l,rfl⟩
  have a:Looks M h (Bind.madeBy (.ref C)) (some "Exception.__new__"):=by intro A Q E s k q;unfold Bind.madeBy;refine za (n A _ E s k ?_);rw[o,uo];refine za (za (za (za (sP (k _ _ (X _ _ i)) (zr ?_)))));cbv;rw[<-Array.getElem?_toList,D];exact zr (zr (zr q))
  have f:∀(v:Value)(b:Bool),d.mro.contains v=b->Looks M h (isSubtype (.ref C) v) b:=fun v b u=>uA X (by unfold mroIn;rw[p,wU,zb (by rw[g];decide),u]);refine⟨⟨t,d,r,X _ _ i,F,g⟩,a,?_,f _ _ B,f _ _ z,f _ _ y,f _ _ x,f _ _ w,PySem.W.looks_specialIn X m,PySem.W.looks_instIn X j⟩;intro A Q E s k q;unfold Bind.staticBase;refine za (n A _ E s k ?_);rw[o,uo];exact za (za (za (a A _ E s k (zr (zr (zr q))))))
 ·cases e
section
variable{w:World}{K:Frag}{R:Result->Shared->Prop}{h:Heap}{g:Array GenState}{d:Drawn}{t:Nat}{os:OsState}
theorem newX{a:List Value}(Y:N7 (model prog w) h C)(e:a.length<=sizeLine)(m:R (.ok (.ret (.ref (h.objs.size+1)))) ⟨(h.push (Dg a)).push (Ek C h.objs.size),g,d,t,os⟩):codeAny (model prog w) A (.call (.builtin "Exception.__new__") ⟨.ref C::a,[]⟩) R ⟨h,g,d,t,os⟩:=by
 have F:=vo;obtain⟨⟨v,B,u,o,r,z⟩,b,base,self,q,s,y,x,k,l⟩:=Y;have j:Looks (model prog w) h (Bind.madeHere "BaseException.__new__" (.ref C)) ():=base.andThen (b.andThen (tL (by simp only[yE,F.canon,uL,yD,yW])));refine codeAny_call_builtin_code (Code.quiet_builtin _ F.quiet) ?_;have c:=F.noStar;simp only[checkBuiltinCall,F.newKind,F.newSplit,F.newRow];repeat(first|simp only[uL,yD,yW] |lk)
 refine codeAny_builtinAt F.entry ?_;unfold Builtin.«BaseException.__new__»;refine qa ?_;show PySem.wpAt _ _ _ (stack>>=_) _ _ _;refine qa (PySem.wpAt_stack fun p i=>rb ?_);cbv;rw[zc F.ends];refine zr (rb ?_);rw[F.owner];repeat(first|simp only[uL,yD,yW,Bool.not_true] |lk)
 rw[zb (by rw[zI];lia)];have f:=zi (Dg a) o;have n:=zi (Ek C h.objs.size) f;refine za (sf ?_);repeat lk
 rw[r];refine zr (zr ?_);show R _ _;rw[yk];exact m
theorem m8{c:List Value}{f:Value}(Y:N7 (model prog w) h C)(i:c.length<=sizeLine)(s:Looks (model prog w) h (typeLookup (.ref C) "__init__") (some f))(u:∀self,Looks (model prog w) h (bindSpecial f self) (f,[self]))(q:codeAny (model prog w) (A.under (.builtin "type.__call__" ⟨.ref C::c,[]⟩)) (.call f ⟨.ref (h.objs.size+1)::c,[]⟩) (InitBack (h.objs.size+1) R) ⟨(h.push (Dg c)).push (Ek C h.objs.size),g,d,t,os⟩):codeAny (model prog w) A (.call (.ref C) ⟨c,[]⟩) R ⟨h,g,d,t,os⟩:=by
 have E:=Y;obtain⟨⟨J,B,G,n,O,y⟩,m,base,self,x,D,L,K,j,l⟩:=Y;refine codeAny_of_tree ?_;show wpAny _ _ (callAny (.ref C) _) _ _ _;refine PySem.W.nd_load n ?_;show wpAny _ _ (callAny.viaDunder (.ref C) _) _ _ _;unfold callAny.viaDunder;refine za (j.at ?_);cbv;rw[tc_bind];refine za (zr (za (zr (zr (a:=Fin.again (.call (.builtin "type.__call__") ⟨.ref C::c,[]⟩)) (And.intro rfl (codeAny_call_builtin_at (Code.quiet_builtin _ ∎) entry_typeCall (uI tc_kind tc_split l (PySem.W.tc_args _ _ _) ?_)))))));unfold Builtin.«type.__call__»;have N:Looks (model prog w) h (mroOf (.ref C)) B.mro:=((uY (part:=none) n).andThen .now).andThen .now;repeat(first|simp only[y,yD,yW] |with_reducible refine vd ?_|lk)
 refine newX E i ?_;have k:∀b o,h.get? b=some o->((h.push (Dg c)).push (Ek C h.objs.size)).get? b=some o:=fun b o e=>zi _ (zi _ e);have p:((h.push (Dg c)).push (Ek C h.objs.size)).get? (h.objs.size+1)=some (Ek C h.objs.size):=by heap_get
 have F:Looks (model prog w) ((h.push (Dg c)).push (Ek C h.objs.size)) (typeOf (.ref (h.objs.size+1))) (.ref C):=(uY p).andThen .now;have H:=self.keeps k;have M:=s.keeps k;have P:=(u (.ref (h.objs.size+1))).keeps k;unfold isInstance callSpecial? specialOf;repeat(first|with_reducible refine vd ?_|lk)
 refine wZ q fun r I z=>?_;rcases r with e|(v|Q|Q|Q)<;>first|exact z|exact z.elim|skip
 obtain⟨rfl,z⟩:=z;exact zr (zr z)
end
end L2
namespace L2
open PySem PySem.Spec PyProof.Rows
structure ExcAt(h:Heap)(c:Bool)(a C:Addr)(d tb:Option Addr):Prop where
 obj:∃vs sl,h.get? a=some {cls:= .ref C,dict:=d,data:= .fields vs,slots:=sl}/\vs.size=6/\vs[1]?=some (tb.elim .none .ref)/\(c=true->vs[2]?=some .none)
 w6:∀t,tb=some t->t≠a/\∃o ts,h.get? t=some o/\o.data= .fields ts/\3<ts.size
theorem ExcAt.weak{h:Heap}{c:Bool}{b:Option Addr}(x:ExcAt h c a C d b):ExcAt h false a C d b:=by obtain⟨⟨e,f,j,i,g,Y⟩,r⟩:=x;exact⟨⟨e,f,j,i,g,fun z=>nomatch z⟩,r⟩
theorem ExcAt.keeps{h g:Heap}{c:Bool}{e:Option Addr}(x:ExcAt h c a C d e)(k:∀b o,b=a\/some b=e->h.get? b=some o->g.get? b=some o):ExcAt g c a C d e:=by obtain⟨⟨i,l,s,q,p,m⟩,r⟩:=x;refine⟨⟨i,l,k a _ (.inl rfl) s,q,p,m⟩,fun t f=>?_⟩;obtain⟨n,o,j,w,v,u⟩:=r t f;exact⟨n,o,j,k t o (.inr f.symm) w,v,u⟩
theorem DD{h:Heap}{f:Obj->Obj}{o:Obj}(n:a≠b)(e:h.get? b=some o):(h.update a f).get? b=some o:=by rw[yT _ _ n];exact e
section
variable{h':Heap}
theorem As.mR{ch:List Addr}(I:As X pins σ H s)(l:∀b o,b∈Nm X.stack->s.heap.get? b=some o->∃h,h'.get? b=some {o with slots:=h})(k:∀b o,b∉Nm X.stack->b∉ch->s.heap.get? b=some o->h'.get? b=some o)(g:∀b∈ch,Cf X pins H b):As X pins σ H {s with heap:=h',toks:=t'}:=by
 have f:∀b o,b∉ch->s.heap.get? b=some o->∃h,h'.get? b=some {o with slots:=h}:=fun b o a e=>by
  by_cases hs:b∈Nm X.stack;·exact l b o hs e
  ·exact⟨o.slots,k b o hs a e⟩
 have j:∀b u,H b=some u->b∉ch:=fun b u e z=>by have q:=(g b z).1;rw[q]at e;cases e
 have i:∀b u,H b=some u->b∉Nm X.stack:=fun b u e z=>by have q:=I.PV b z;rw[q]at e;cases e
 refine I.step (g':=s.gens) (d':=s.drawn) (ch:=ch) (fun b a=>⟨(g b a).2.2.2.1,(g b a).2.1,(g b a).2.2.2.2.1,(g b a).2.2.2.2.2⟩) (fun b o w a d e Y=>k b o (fun z=>(zw.mp (I.Jz b z)).elim w a) d e) (fun b o Y Y d e Y=>f b o d e) (fun Y Y Y Y n=>n) (fun b o d e=>let⟨h,q⟩:=f b o d e;⟨_,q⟩) (fun Y Y e=>e) (fun Y Y Y e=>e) (fun b ps e=>⟨#[],by rw[e];simp⟩) (fun m t=>?_) (fun b u e=>?_) I.bare;·obtain⟨o,x,y,p,r⟩:=t;obtain⟨h,q⟩:=f _ o (fun z=>(g _ z).2.1 rfl) p;exact⟨_,x,y,q,r⟩
 ·refine(I.Bw b u e).Im (fun c v d q=>?_) (fun Y q=>q) fun Y Y q=>q;rcases d with z|z;·rw[z]at q|-;exact k b v (i b u e) (j b u e) q
  ·exact k c v (i c _ z) (j c _ z) q
end
section
variable{tb:Option Addr}{c:Bool}
structure kR(X:Cx):Prop where
 Zw:X.stack=X.env::X.outer
 px:X.env.frame=some X.env.locals
theorem K6{i:Value}{F:Bool}{Q:Unit->Shared->Prop}(W:kR X)(I:As X pins σ H s)(B:Cf X pins H a){o:Obj}{v:Array Value}(D:s.heap.get? a=some o)(A:o.data= .fields v)(C:1<v.size)(h:∀k T,s.heap.objs.size<=T->(∀b o,b∈Nm X.stack->s.heap.get? b=some o->∃l,k.get? b=some {o with slots:=l})->(∀b o,b∉Nm X.stack->b≠a->s.heap.get? b=some o->k.get? b=some o)->k.get? a=some (o.mapFields (·.setIfInBounds 1 (.ref T)))->(∃y w,k.get? T=some y/\y.data= .fields w/\3<w.size)->Q () {s with heap:=k}):wpX X (do
 let a'<-frameOf X.env
 let pl<-entryPlaceOf X.env.locals F
 let b<-EntryCells.newEntry i a' .none (rawInt X.env.locals) .none pl
 setField (.ref a) 1 b) Q E s:=by
 have n:X.A.frames=some (X.env::X.outer):=by rw[I.ok.frames,W.Zw]
 have G:s.heap.FunFrames X.base (X.env::X.outer):=by have:=I.stack;rw[W.Zw]at this;exact this
 have u:(X.env::X.outer).filterMap (·.frame)=Nm X.stack:=by rw[W.Zw];rfl
 have j:a∉Nm X.stack:=fun z=>by
  rcases zw.mp (I.Jz a z)with q|q;·exact B.2.1 q
  ·exact B.2.2.1 q
 refine za (wpAny_frameOf_fun n G W.px fun d c=>?_);rw[u]at c;refine za (wpAny_entryPlaceOf fun pl m=>?_);unfold EntryCells.newEntry newFields;refine za (wu ?_ (m.sizeOk5 _ _ _ _ _));have g:d.get? a=some o:=(c.2.1 a j).trans D;have f:=zi (h:=d) {cls:= .type "traceback",dict:=none,data:= .fields ([i,.ref X.env.locals,.none,rawInt X.env.locals,.none]++(if pl.isEmpty then List.replicate 6 Value.none else pl)).toArray} g;refine xA f A C (h _ d.objs.size ?_ ?_ ?_ ?_ ?_);·rw[c.1];exact ze _
 ·intro b x r e;obtain⟨l,q⟩:=c.2.2 b x e;exact⟨l,DD (fun z=>j (by rw[z];exact r)) (zi _ q)⟩
 ·intro b x r p e;exact DD (zN p) (zi _ ((c.2.1 b r).trans e))
 ·exact ye _ f (vc (xZ A _))
 ·have t:d.objs.size≠a:=xl (zA g);exists _,_,(yT _ _ (zN t)).trans (zM d rfl),rfl;simp only[zI,zd,zm,yQ];lia
theorem L4{Q:Unit->Shared->Prop}(W:kR X)(I:As X pins σ H s)(M:Cf X pins H a)(ft:∀t,tb=some t->Cf X pins H t)(x:ExcAt s.heap c a C d tb)(h:∀N t,As X pins σ H N->Cf X pins H t->ExcAt N.heap c a C d (some t)->Q () N):wpX X (noteFrame (.ref a) X.env) Q E s:=by
 obtain⟨⟨r,j,n,P,h1,k⟩,u⟩:=x;have V:({cls:= .ref C,dict:=d,data:= .fields r,slots:=j}:Obj).data= .fields r:=rfl;have fin:∀(s0:Shared)(p:List Addr)(g:Heap)(T:Addr),s.heap.objs.size<=T->(∀b o,b∈Nm X.stack->s.heap.get? b=some o->∃j,g.get? b=some {o with slots:=j})->(∀b o,b∉Nm X.stack->b∉p->s.heap.get? b=some o->g.get? b=some o)->(∀b∈p,Cf X pins H b)->g.get? a=some ({cls:= .ref C,dict:=d,data:= .fields (r.setIfInBounds 1 (.ref T)),slots:=j}:Obj)->(∃oT L,g.get? T=some oT/\oT.data= .fields L/\3<L.size)->T≠a->Q () {s with heap:=g}:=by
  intro s0 p g T m B A y w k5 k6;have J:As X pins σ H {s with heap:=g}:=I.mR (t':=s.toks) (ch:=p) B A y;refine h _ T J (I.JZ m (I.Bw.fresh m)) ⟨⟨_,j,w,by simp[P],?_,fun z=>?_⟩,fun t ht=>?_⟩;·rw[Array.getElem?_setIfInBounds];simp[P]
  ·rw[yz ⋯];exact k z
  ·cases ht;exact⟨k6,k5⟩
 unfold noteFrame;simp only[W.px];refine za (xg n V h1 ?_);cases tb with
 |none=>rw[zb ⋯];refine K6 W I M n V ∅ fun g T m B A y w=>?_;have l:T≠a:=xl (zF (zA n) m);exact fin s [a] g T m B (fun b o f k e=>A b o f (fun z=>k (by simp[z])) e) (fun b f=>by rw[zB.mp f];exact M) y w l
 |some t=>
  obtain⟨O,ot,L,F,G,D⟩:=u t rfl;have i:=ft t rfl;have U:t∉Nm X.stack:=fun z=>by
   rcases zw.mp (I.Jz t z)with q|q;·exact i.2.1 q
   ·exact i.2.2.1 q
  rw[zc (show((Option.some t).elim Value.none Value.ref !=Value.none)=true from by simp)];obtain⟨Z,R⟩:∃v,L[3]?=some v:=⟨_,tV D⟩;refine za (xg (x:=Z) F G R ?_);by_cases hq:(Z==rawInt X.env.locals)=true;·rw[zc hq];exact zr (h s t I i ⟨⟨r,j,n,P,h1,k⟩,u⟩)
  ·rw[zb hq];refine za (xA F G D ?_);have I2:As X pins σ H {s with heap:=s.heap.update t (Obj.mapFields (·.setIfInBounds 3 .none))}:=I.Lp (t':=s.toks) (ch:=[t]) (fun b o f e=>DD (fun z=>f (by simp[z])) e) (fun b f=>by rw[zB.mp f];exact i);have S:(s.heap.update t (Obj.mapFields (·.setIfInBounds 3 .none))).get? a=some {cls:= .ref C,dict:=d,data:= .fields r,slots:=j}:=DD O n;refine K6 W I2 M S V ∅ fun g T m B A y w=>?_;have K:s.heap.objs.size<=T:=by have e:(s.heap.update t (Obj.mapFields (·.setIfInBounds 3 .none))).objs.size=s.heap.objs.size:=Heap.size_after_update ..;have a0:(s.heap.update t (Obj.mapFields (·.setIfInBounds 3 .none))).objs.size<=T:=m;lia
   have l:T≠a:=xl (zF (zA n) K);refine fin s [a,t] g T K (fun b o f e=>?_) (fun b o f k e=>?_) (fun b f=>?_) y w l;·exact B b o f (DD (fun z=>U (by rw[z];exact f)) e)
   ·exact A b o f (fun z=>k (by simp[z])) (DD (fun z=>k (by simp[z])) e)
   ·rcases zw.mp f with z|z;·rw[z];exact M
    ·rw[zB.mp z];exact i
theorem GR{Q:Unit->Shared->Prop}(I:As X pins σ H s)(F:Cf X pins H a)(w:∀t,tb=some t->Cf X pins H t)(x:ExcAt s.heap c a C d tb)(y:Option Addr)(h:∀k,As X pins σ H k->ExcAt k.heap c a C d tb->Q () k):wpAny (model X.prog X.w) A (setFlight (.ref a) y) Q E s:=by
 obtain⟨⟨q,r,n,u,p,v⟩,l⟩:=id x;unfold setFlight;refine za (xg n rfl p ?_);cases tb with
 |none=>rw[zb ⋯];exact zr (h s I x)
 |some t=>
  obtain⟨g,D,B,j,f,i⟩:=l t rfl;rw[zc (show((Option.some t).elim Value.none Value.ref !=Value.none)=true from by simp)];refine xA j f i (h _ ?_ ?_);·exact I.Lp (t':=s.toks) (ch:=[t]) (fun b o m e=>DD (fun z=>m (by simp[z])) e) (fun b m=>by rw[zB.mp m];exact w t rfl)
  ·refine⟨⟨q,r,DD g n,u,p,v⟩,fun t' e=>?_⟩;cases e;exact⟨g,_,_,ye _ j (vc (xZ f _)),xZ f _,‹i›⟩
theorem bL{Q:Unit->Shared->Prop}(W:kR X)(I:As X pins σ H s)(f:Cf X pins H a)(l:∀t,tb=some t->Cf X pins H t)(x:ExcAt s.heap c a C d tb)(h:∀b t,As X pins σ H b->Cf X pins H t->ExcAt b.heap c a C d (some t)->Q () b):wpX X (leaving X.env (.ref a)) Q E s:=by unfold leaving;refine za (L4 W I f l x fun o t n g j=>?_);exact GR n f (fun t' e=>by cases e;exact g) j none fun k m i=>h k t m g i
end
def YY(c:Bool)(P:Program)(w:World):Ib:=fun outer H s E e f=>∃a C d h g,e= .ref a/\f.os=s.os/\AllBare f.gens/\Un (Nm outer) [] H g s.heap f.heap/\FL P w g f.heap/\ExcAt f.heap c a C d h/\(∀b,b=a\/h=some b->s.heap.objs.size<=b/\g b=none)/\E (.ref C) d g
def C6(c:Bool)(X:Cx)(E:XK):Prop:=∀(b:List (Addr×Obj))(σ:St)(H:Hp)(s:Shared)(a C:Addr)(d e:Option Addr),As X b σ H s->Cf X b H a->(∀t,e=some t->Cf X b H t)->ExcAt s.heap c a C d e->E (.ref C) d H->X.xe (.ref a) s
theorem C6.weak{c:Bool}{X:Cx}{E:XK}(h:C6 false X E):C6 c X E:=fun b σ H s a C d e I g f x q=>h b σ H s a C d e I g f x.weak q
theorem C6.passes{c:Bool}{X:Cx}{E:XK}(h:C6 c X E):Cy (YY c X.prog X.w) X E:=by intro b σ H s e i I ⟨a,C,d,m,k,o,n,p,l,g,x,f,q⟩;subst o;have J:As X b σ k i:=I.iq (ch:=[]) n l g p (fun Y z=>nomatch z);exact h b σ k i a C d m J (I.JZ (f a (.inl rfl)).1 (f a (.inl rfl)).2) (fun t j=>I.JZ (f t (.inr j)).1 (f t (.inr j)).2) x q
section
variable{c:Bool}{P:Program}{w:World}{K:Frag}{mg:Str->Option Value}{base:Heap}{f:Addr}{cd:Value}{outer:List Env}{E:XK}
theorem jB{a:Ib}:kR (Jh a P w K mg base N qual scope f cd A outer s H E):=⟨rfl,rfl⟩
theorem Zn:C6 c (Jh (YY c P w) P w K mg base N qual scope f cd A outer s H E) E:=by
 intro e σ h o a C d m I g k x q;refine bL (X:=Jh (YY c P w) P w K mg base N qual scope f cd A outer s H E) jB I g k x fun n t J l i=>?_;refine⟨a,C,d,some t,h,rfl,J.os,J.bare,J.base,J.Bw,i,fun b j=>?_,q⟩;have:Cf (Jh (YY c P w) P w K mg base N qual scope f cd A outer s H E) e h b:=by
  rcases j with rfl|z;·exact g
  ·cases z;exact l
 refine⟨?_,this.1⟩;rcases this.2.2.2.1 with z|z;·exact absurd (show b∈([]:List Addr)from z) (by simp)
 ·exact z
theorem Br{a:Ib}:PassesOwn (model P w) (A.deeper (envOfC qual scope s.heap.objs.size f cd)) (envOfC qual scope s.heap.objs.size f cd) (Jh a P w K mg base N qual scope f cd A outer s H E).xe:=PassesOwn.leaving
end
structure Cj(k:Nat)(A:Around):Prop where
 dp:A.depth+3*k+5<recursionLimit
 un:A.units+16*k+200<cLine
theorem AV.h{k:Nat}(r:AV k A):Cj k A:=⟨r.dp,r.un⟩
theorem Cj.deeper{k:Nat}(r:Cj (k+1) A)(env:Env):Cj k (A.deeper env):=⟨by have:=r.dp;show A.depth+1+3*k+5<_;lia,by have:=r.un;show A.units+3+16*k+200<_;lia⟩
theorem Cj.make{k:Nat}(r:Cj (k+1) A)(C:Addr)(us:List Value)(a:List (Str×Value)):Cj k (A.under (.builtin "type.__call__" ⟨.ref C::us,a⟩)):=⟨by have:=r.dp;rw[MQ];lia,by have:=r.un;rw[MP];lia⟩
theorem Cj.depth{k:Nat}(r:Cj k A):A.depth<recursionLimit:=by have:=r.dp;lia
theorem Cj.mark{k:Nat}(r:Cj k A)(h:Option Value):Cj k (A.mark h):=⟨r.dp,r.un⟩
structure FE(P:Program)(w:World)(K:Frag)(mg:Str->Option Value)(base:Heap)(CX:Ib)(k:Nat)(f:Addr)(fd:FuncData)(ps:List Str)(sp:Sp):Prop where
 len:∀vs H Q E,sp vs H Q E->vs.length=ps.length
 run:∀(A:Around)(outer:List Env)(s:Shared)(H:Hp)(args:Args)(us:List Value)(vs:List V)(Q:VK)(E:XK),Cj k A->Rb P w K mg base A outer s H->BindsTo s fd args (ps.zip us)->AF vs us->sp vs H Q E->codeAny (model P w) A (.call (.ref f) args) (CR CX outer P w H s Q E) s
abbrev k_(b:Ib)(P:Program)(w:World)(K:Frag)(mg:Str->Option Value)(base:Heap)(N:List Str)(qual:Str)(scope:Scope)(f:Addr)(a:Value)(A:Around)(outer:List Env)(s:Shared)(H:Hp)(E:XK):Cx:={Jh b P w K mg base N qual scope f a A outer s H E with calm:=false}
theorem Vk{J:Ib}{P:Program}{w:World}{K:Frag}{mg:Str->Option Value}{base:Heap}{f:Addr}{D:Value}{outer:List Env}{F:Shared}{E:XK}{j:List V}(S:Ah N ps scope)(g:Rb P w K mg base A outer s H)(R:j.length=ps.length)(r:AF j us)(x:InCallC s s.heap.objs.size (bindL (envOfC qual scope s.heap.objs.size f D).kindOf (ps.zip us) fun Y=>none) (cellsFrom (s.heap.objs.size+1) scope.names []) (bindC (envOfC qual scope s.heap.objs.size f D).kindOf (ps.zip us) fun Y=>none) F):As (k_ J P w K mg base N qual scope f D A outer s H E) [] (start N j) H F:=by
 have M:ps.length<=N.length:=by have:=zT List.length S.pre;rw[zO]at this;lia
 obtain⟨C,Q,rfl,I⟩:=x.done;have l:∀b:Addr,b∉(k_ J P w K mg base N qual scope f D A outer s H E).ex:=fun b z=>absurd (show b∈([]:List Addr)from z) (by simp);exists⟨g.mod,S.kind,rfl,rfl,ze _,fun y z c C d=>?_,fun y m=>?_,fun y c Y h=>?_,(fun z=>nomatch z),qt g.frames,.inr ⟨rfl,rfl⟩,fun b z=>absurd z (l b),g.bs,g.Zg,fun b Y Y=>l b,fun b z=>absurd z (l b),g.HU,g.dE⟩,rfl,g.bare,Un.kept I,⟨_,x.toInCall.ns,fun i y v C d T=>?_⟩,fun y c h=>⟨_,x.cell y c h⟩,g.Bw.fresh (ze _),fun y c h=>?_,fun p t=>absurd (show p∈([]:List (Addr×Obj))from t) (by simp),g.Bw.kept I;·exact name_of_addr x.apart (zU C) (zU d)
 ·have m:scope.names.lookup y=some .cell\/scope.names.lookup y=some .free:=m;rcases m with m|m;·exact Jj m
  ·exact absurd rfl (S.bq _ (zU m))
 ·exact wj (x.above y c (zU h))
 ·have B:i<j.length:=by
   unfold start at d;by_cases B:i<j.length;·exact B
   ·rw[yC ‹B›]at d;rw[ua]at d;split at d<;>cases d
  have O:j[i]?=some v:=by unfold start at d;rw[yr ‹B›,z7]at d;cases e:j[i]? with|none=>rw[e]at d;cases d|some a=>rw[e]at d;cases d;rfl
  obtain⟨u,G,L⟩:=r.get O;have t:ps[i]?=some y:=by rw[<-S.pre,vM ∅];exact C
  have o:ps.Nodup:=by rw[<-S.pre];exact S.nd.sublist (rO _ _)
  exists u,L;rcases S.par y (zf t)with k|k;·exact .inl ⟨k,Kn o t G k⟩
  ·obtain⟨c,e⟩:=Jj (n:=s.heap.objs.size+1) k;refine .inr ⟨.inl k,c,e,?_⟩;have q:=x.cell y c e;rw[Ko o t G (by show scope.names.lookup y≠_;rw[k];decide)]at q;exact q
 ·exact g.Bw.fresh (wj (x.above y c (zU h)))
 ·unfold start;show _=N.length;rw[zd,z3,yF];lia
theorem ki{F:Ib}{P:Program}{w:World}{K:Frag}{mg:Str->Option Value}{base:Heap}{k:Nat}{f:Addr}{i:Str}{c:Arguments}{d:List Stmt}{dV X D W a ct oc:Value}{an od:Option Addr}{O:Array (Option Value)}{G:Sp}(lk:K.lookup f=some ⟨oc,od,.func (fnOf i qual c d scope dV X D W an a ct),O⟩)(T:codeIn K a qual=true)(S:Ah N ps scope)(z:∀h H Q E,G h H Q E->h.length=ps.length)(m:∀(A:Around)(outer:List Env)(s:Shared)(H:Hp)(h:List V)(Q:VK)(E:XK),Cj k (A.deeper (envOfC qual scope s.heap.objs.size f a))->G h H Q E->∃t,Ri (k_ F P w K mg base N qual scope f a A outer s H E) d t/\t {nx:=fun Y j=>Q .Bz j,rt:=Q} (start N h) H):FE P w K mg base F (k+1) f (fnOf i qual c d scope dV X D W an a ct) ps G:=by
 refine⟨z,fun A outer s H args us h Q E Z C hb r B=>?_⟩;have hl:=z _ _ _ _ B;have KX:K.In s.heap:=C.mod.dD.keeps fun b o e=>(C.bs b o e).1;have R:s.heap.NoLimit:=C.mod.nolimit.keeps fun b o e=>(C.bs b o e).1;have l:∀y∈ps.zip us,scope.names.lookup y.1=some .local\/(scope.names.lookup y.1=some .cell/\((cellsFrom (s.heap.objs.size+1) scope.names []).lookup y.1).isSome=true):=fun⟨n,v⟩ hy=>by
  rcases S.par n (uk hy).1 with q|q;·exact .inl q
  ·exact .inr ⟨q,ub _ _ _ (.inl q)⟩
 refine qc Z.depth (KX _ _ lk) rfl S.co S.gen rfl (rB KX T) (hb _ _ _ _ (sO S.kind l fun env he U x=>?_));subst he;refine⟨R.keeps x.toInCall.keep,codeAny_func ?_⟩;obtain⟨t,ht,hq⟩:=m A outer s H h Q E (Z.deeper _) B;have I:As (k_ F P w K mg base N qual scope f a A outer s H E) [] (start N h) H U:=Vk S C hl r x;refine yG (ht [] U (start N h) H _ I hq) (fun fl L p=>?_) fun e L p=>p;have fin:∀{g:St}{j:Hp}{v:V}{u:Value},As (k_ F P w K mg base N qual scope f a A outer s H E) [] g j L->AW v u->Q v j->CE outer P w H s Q u L:=fun{g j v u} J M q=>⟨v,j,J.os,J.bare,J.base,J.Bw,M,q⟩;cases fl with|ret u=>obtain⟨v,g,j,J,M,q⟩:=p;exact fin J M q|next=>obtain⟨g,j,J,q⟩:=p;exact fin (v:=V.Bz) (u:=Value.none) J rfl q|brk=>obtain⟨Y,Y,Y,q⟩:=p;exact False.elim q|cont=>obtain⟨Y,Y,Y,q⟩:=p;exact False.elim q
section
variable{CX:Ib}{k:Nat}{f:Addr}{sp:Sp}{E:XK}{m:Str}{p pos:Pos}{t:TA}
theorem eO{a:List (Addr×Obj)}{Q:VK}{d:List V}(F:FE X.prog X.w X.K X.mg X.base CX k f fd ps sp)(j:Cj k X.A)(m:Bm X.K fd ps [])(i:Cy CX X E)(I:As X a σ H s)(r:AF d us)(h:sp d H Q E):wpX X (call (.ref f) us) (EP X a σ Q) X.xe s:=by
 have l:(us++[]).length=ps.length:=by rw[zR,<-r.length];exact F.len _ _ _ _ h
 have c:=m s us I.Gp l;rw[zR]at c;refine vd (wZ (F.run X.A X.stack s H ⟨us,[]⟩ us d Q E j I.gi c r h) fun r g b=>?_);cases r with|error e=>exact i a σ H s e g I b|ok n=>cases n with|ret u=>exact I.after b|next=>exact False.elim b|brk=>exact False.elim b|cont=>exact False.elim b
def XO(a C:Addr)(d:Option Addr):HO:= .ext fun h=>∃b c,h.get? a=some {cls:= .ref C,dict:=d,data:= .fields b,slots:=c}/\b.size=6/\b[1]?=some .none/\b[2]?=some .none
theorem XO.bf{P:Program}{w:World}{h:Heap}{C:Addr}{vs:Array Value}{sl:Array (Option Value)}(e:h.get? a=some {cls:= .ref C,dict:=d,data:= .fields vs,slots:=sl})(b:vs.size=6)(f:vs[1]?=some .none)(c:vs[2]?=some .none):B6 P w H h a (XO a C d):=⟨⟨vs,sl,e,b,f,c⟩,⟨_,e⟩,fun Y Y ⟨vs,sl,e,r⟩ k=>⟨vs,sl,k _ e,r⟩⟩
theorem As.xo{b:List (Addr×Obj)}{C:Addr}(I:As X b σ H s)(h:H a=some (XO a C d)):∃c e,s.heap.get? a=some {cls:= .ref C,dict:=d,data:= .fields c,slots:=e}/\c.size=6/\c[1]?=some .none/\c[2]?=some .none:=(I.Bw a _ h).1
def Li(H:Hp)(a:Addr):Hp:=fun b=>if b=a then none else H b
theorem EZ:Li H a a=none:=by unfold Li;rw[zc rfl]
theorem BX(h:b≠a):Li H a b=H b:=by unfold Li;rw[zb h]
theorem T5{o:HO}(h:Li H a b=some o):b≠a/\H b=some o:=by
 unfold Li at h;split at h;·cases h
 ·exact⟨by assumption,h⟩
theorem As.il{f:List (Addr×Obj)}{C:Addr}(I:As X f σ H s)(h:H a=some (XO a C d)):As X f σ (Li H a) s:=by
 have g:∀b u,H b=some u->u≠XO a C d->Li H a b=some u:=fun b u e n=>by
  by_cases q:b=a;·subst q;rw[h]at e;exact absurd (zt e).symm n
  ·rw[BX q];exact e
 refine⟨I.ok,I.os,I.bare,⟨I.base.keep,I.base.slot,fun b o e n i=>?_,I.base.there,fun b xs e=>?_,fun b o u e=>?_,fun b ps e=>?_⟩,I.loc,I.cell,?_,fun x c e=>?_,fun p j=>?_,fun b u e=>?_,I.len⟩
 ·by_cases q:b=a;·subst q;exact EZ
  ·rw[BX q];exact I.base.free b o e n i
 ·exact g _ _ (I.base.tups b xs e) (by unfold XO;intro z;cases z)
 ·exact g _ _ (I.base.frzs b o u e) (by unfold XO;intro z;cases z)
 ·obtain⟨m,q⟩:=I.base.tbls b ps e;exact⟨m,g _ _ q (by unfold XO;intro z;cases z)⟩
 ·by_cases q:X.env.locals=a;·rw[q];exact EZ
  ·rw[BX q];exact I.free
 ·by_cases q:c=a;·rw[q];exact EZ
  ·rw[BX q];exact I.CM x c e
 ·obtain⟨e,n,r⟩:=I.pin p j;refine⟨e,?_,r⟩;by_cases q:p.1=a;·rw[q];exact EZ
  ·rw[BX q];exact n
 ·obtain⟨q,e⟩:=T5 e;have x:=I.Bw b u e;exact x.Im (fun Y Y Y z=>z) (fun c z=>g c _ z (by unfold XO;intro z;cases z)) fun c xs z=>g c _ z (by unfold XO;intro z;cases z)
structure PK(K:Frag)(C f:Addr):Prop where
 makes:D7 K C=true
 init:findIn K (.ref C) "__init__"=some (some (.ref f))
 fn:isFn K (.ref f)=true
 kp:keepIn K (.ref C)=true
 nT:subIn K (.ref C) (.type "type")=some false
theorem OL{c:List (Addr×Obj)}{Q:Hp->Prop}{m:List V}(M:PK X.K C f)(F:FE X.prog X.w X.K X.mg X.base PM k f fd ps sp)(z:Cj (k+1) X.A)(B:Bm X.K fd ps [])(I:As X c σ H s)(r:AF m us)(y:m.length<=sizeLine)(h:sp (.ref (s.heap.objs.size+1)::m) (Av H (s.heap.objs.size+1) (XO (s.heap.objs.size+1) C none)) (fun v K=>v= .Bz/\Q K) E0):wpX X (call (.ref C) us) (fun u q=>u= .ref (s.heap.objs.size+1)/\∃n,As X c σ n q/\Q n) X.xe s:=by
 have J:As X c σ H {s with heap:=s.heap.push (Dg us)}:=I.kept (t':=s.toks) fun b u e=>zi _ e;have j:((s.heap.push (Dg us)).push (Ek C s.heap.objs.size)).get? (s.heap.objs.size+1)=some (Ek C s.heap.objs.size):=by heap_get
 have p:As X c σ (Av H (s.heap.objs.size+1) (XO (s.heap.objs.size+1) C none)) {s with heap:=(s.heap.push (Dg us)).push (Ek C s.heap.objs.size)}:=J.laid (t':=s.toks) (a:=s.heap.objs.size+1) (fun b u e=>zi _ e) (by show(s.heap.push _).objs.size<=_;rw[yk];exact ze _) (XO.bf j rfl rfl rfl);have t:AF (V.ref (s.heap.objs.size+1)::m) (Value.ref (s.heap.objs.size+1)::us):= .cons rfl r;have A:((Value.ref (s.heap.objs.size+1)::us)++[]).length=ps.length:=by rw[zR,<-t.length];exact F.len _ _ _ _ h
 have l:=B {s with heap:=(s.heap.push (Dg us)).push (Ek C s.heap.objs.size)} (Value.ref (s.heap.objs.size+1)::us) p.Gp A;rw[zR]at l;have o:=F.run _ X.stack _ _ ⟨Value.ref (s.heap.objs.size+1)::us,[]⟩ (Value.ref (s.heap.objs.size+1)::us) _ _ E0 (z.make C us []) (p.gi.make C us []) l t h;obtain⟨N,g,d,L,os⟩:=s;refine vd (m8 (GQ I.Gp M.makes) (by rw[<-r.length];exact y) (xB I.Gp M.init) (fun self=>qd I.Gp self (zP.mp M.fn)) (wZ o fun r q i=>?_));cases r with|error e=>exact False.elim i|ok D=>cases D with|ret u=>obtain⟨v,n,G,w,E,x⟩:=p.after i;subst E;exact⟨w,rfl,n,G,x⟩ |next=>exact False.elim i|brk=>exact False.elim i|cont=>exact False.elim i
end
end L2
namespace L2
open PySem PySem.Spec PyProof.Rows
open PySem.W (Frag Looks)
section
variable{f:Addr}
structure Ue(M:Model)(h:Heap)(a C:Addr):Prop where
 ty:Looks M h (typeOf (.ref a)) (.ref C)
 mt:Looks M h (typeOf (.ref C)) (.type "type")
 nT:Looks M h (isSubtype (.ref C) (.type "type")) false
 qX:Looks M h (isSubtype (.ref C) (.type "BaseException")) true
theorem ZA{K:Frag}{M:Model}{h:Heap}{o:Obj}(j:K.In h)(i:PK K C f)(e:h.get? a=some o)(n:o.cls= .ref C):Ue M h a C:=by obtain⟨⟨q,v,p,l,u,t⟩,d,base,self,m,c,s,r,g,k⟩:=GQ (M:=M) j i.makes;refine⟨?_,(uY l).andThen .now,rg j i.nT,c⟩;have:=(uY (M:=M) (part:=some headPart) e).andThen (f:=fun o=>pure o.cls) (b:= .ref C) (by rw[<-n];exact .now);exact this
theorem R_{env:Env}{Q:Flow->Shared->Prop}{x:Sem Value}{s:Shared}(r:A.handled=none)(o:wpAny (model X.prog X.w) A x (fun v f=>∃a e j d,v= .ref a/\Ue (model X.prog X.w) f.heap a C/\f.heap.get? a=some {cls:= .ref C,dict:=d,data:= .fields e,slots:=j}/\e[1]?=some .none/\E (.ref a) f) E s):wpAny (model X.prog X.w) A (raiseStmt env (some x) none) Q E s:=by
 unfold raiseStmt;refine za (yG o (fun v b c=>?_) fun Y Y z=>z);obtain⟨a,e,j,d,rfl,⟨l,n,m,i⟩,p,u,t⟩:=c;obtain⟨h,g,B,w,os⟩:=b;have y:Looks (model X.prog X.w) h (field (.ref a) 1) .none:=by intro A Q E s k q;exact xg (k _ _ p) rfl u q
 dsimp only at l n m i;repeat lk
 refine rq ?_;rw[r];exact t_ t
def HG(C:Addr)(f:Sp)(E:XK)(t:TA):TS:=fun Y σ H=>t σ H fun b e=>b.length<=sizeLine/\∀a,e a=none->f (.ref a::b) (Av e a (XO a C none)) (fun v c=>v= .Bz/\∃d,c a=some (XO a C d)/\E (.ref C) d (Li c a)) E0
variable{k:Nat}{sp:Sp}{E:XK}{p pos rpos:Pos}{t:TA}{c:Bool}
theorem M7{b:List V}(M:PK X.K C f)(F:FE X.prog X.w X.K X.mg X.base PM k f fd ps sp)(x:Cj (k+1) X.A)(y:Bm X.K fd ps [])(u:C6 true X E)(I:As X pins σ H s)(r:AF b us)(t:b.length<=sizeLine)(h:∀a,H a=none->sp (.ref a::b) (Av H a (XO a C none)) (fun v m=>v= .Bz/\∃d,m a=some (XO a C d)/\E (.ref C) d (Li m a)) E0):wpX X (call (.ref C) us) (fun v e=>∃a b g d,v= .ref a/\Ue (model X.prog X.w) e.heap a C/\e.heap.get? a=some {cls:= .ref C,dict:=d,data:= .fields b,slots:=g}/\b[1]?=some .none/\X.xe (.ref a) e) X.xe s:=by have j:H (s.heap.objs.size+1)=none:=I.Bw.fresh (wG _);refine Bq (OL M F x y I r t (h _ j)) fun v e w=>?_;obtain⟨rfl,m,l,d,o,q⟩:=w;obtain⟨c,g,i,p,n,A⟩:=l.xo o;have B:=l.il o;exact⟨_,c,g,d,rfl,ZA l.Gp M i rfl,i,n,u pins σ _ e _ C d none B (I.JZ (wG _) EZ) (fun Y z=>nomatch z) ⟨⟨c,g,i,p,n,fun Y=>A⟩,fun Y z=>nomatch z⟩ q⟩
theorem EN(M:PK X.K C f)(F:FE X.prog X.w X.K X.mg X.base PM k f fd ps sp)(y:Cj (k+1) X.A)(B:Gl X x)(z:X.mg x=some (.ref C))(K:Bm X.K fd ps [])(J:X.calm=true)(u:C6 true X E)(L:PA X (e::es) t)(l:(x==("__debug__":Str))=false:=by decide)(G:starEach (e::es) X.env=(false,eval e X.env)::starEach es X.env:=by rfl)(j:(backTo pos (starEach es X.env)).any (·.1)=false:=by rfl):PS X (.Raise (some (.Call (.Name x p) (e::es) [] pos)) none rpos) (HG C sp E t):=by
 intro b s σ H D I h;rw[sR];refine za (xb ?_);have A:=I.ok.hd J;have c:wpX X (eval (.Call (.Name x p) (e::es) [] pos) X.env) (fun v g=>∃a i n d,v= .ref a/\Ue (model X.prog X.w) g.heap a C/\g.heap.get? a=some {cls:= .ref C,dict:=d,data:= .fields i,slots:=n}/\i[1]?=some .none/\X.xe (.ref a) g) X.xe s:=by refine yX (DL I B z ?_ l);refine xO (h₀:=X.base) I.ok.mod.dD M.kp (Bq (L pos b s σ H _ I h) fun us N ⟨i,O,m,r,q,o⟩=>⟨m.Gp,?_⟩) G j;exact M7 M F y K u m r q o
 show wpAny _ _ (raiseStmt X.env (some (do
  let v<-eval (.Call (.Name x p) (e::es) [] pos) X.env
  standAt rpos
  pure v)) none) _ _ _;exact R_ A (za (Bq c fun v g w=>za (xb (zr w))))
theorem XH(M:PK X.K C f)(F:FE X.prog X.w X.K X.mg X.base PM k f fd ps sp)(n:Cj (k+1) X.A)(r:Gl X x)(o:X.mg x=some (.ref C))(u:Bm X.K fd ps [])(t:X.calm=true)(l:C6 true X E)(e:(x==("__debug__":Str))=false:=by decide):PS X (.Raise (some (.Call (.Name x p) [] [] pos)) none rpos) (HG C sp E B_):=by
 intro i s σ H D I h;rw[sR];refine za (xb ?_);have q:=I.ok.hd t;have b:wpX X (eval (.Call (.Name x p) [] [] pos) X.env) (fun v c=>∃a g j d,v= .ref a/\Ue (model X.prog X.w) c.heap a C/\c.heap.get? a=some {cls:= .ref C,dict:=d,data:= .fields g,slots:=j}/\g[1]?=some .none/\X.xe (.ref a) c) X.xe s:=by refine yX (DL I r o ?_ e);exact uB I.Gp M.kp (M7 (us:=[]) M F n u l I .nil h.1 h.2)
 show wpAny _ _ (raiseStmt X.env (some (do
  let v<-eval (.Call (.Name x p) [] [] pos) X.env
  standAt rpos
  pure v)) none) _ _ _;exact R_ q (za (Bq b fun v c m=>za (xb (zr m))))
end
theorem Qt{w:World}{K:Frag}{v:Value}{a:Str}{T:String}{Q:Value×List Value->Shared->Prop}(X:K.In s.heap)(f:typeOf (.type T)=pure (.type "type"))(g:Manifest.isStub T=false)(e:findCls K (.type T) (.type "type") a=some (.val v))(i:handedIn v=true)(h:Q (v,[]) {s with toks:=s.toks+1}):wpAny (model prog w) A (getMethod (.type T) a pl) Q E s:=by
 have b:opaqueClassAbove (.type T)=pure none:=by unfold opaqueClassAbove;cbv;rw[g];rfl
 have d:Looks (model prog w) s.heap (typeOf (.type T)) (.type "type"):=tL f;have c:findIn K (.type "type") "__getattribute__"=some (some (.builtin "type.__getattribute__")):=PySem.W.type_tga;unfold getMethod specialOf;refine za (za (d.here ((xB X c).here ?_)));cbv;rw[zc PySem.W.canon_tga];refine za (yG (Q:=fun v=>Q (v,[])) (E:=E) ?_ (fun Y Y z=>zr z) fun Y Y z=>z);have j:Looks (model prog w) s.heap (opaqueClassAbove (.type T)) none:=tL b;refine PySem.W.cls_open X j d c (rA X (r:=none) (by rfl)) (by show subIn K _ _=_;rfl) e (zr (by show wpAny _ _ (handedOut v) _ _ _;rw[sS i];exact zr h))
theorem Nz:bootBuiltins "Exception"=some (.type "Exception"):=∎
theorem gg:typeOf (.type "Exception")=pure (.type "type"):=by kernel_rfl
theorem cF:Manifest.isStub "Exception"=false:=∎
theorem cG(K:Frag):findCls K (.type "Exception") (.type "type") "__init__"=some (.val (.builtin "Exception.__init__")):=by kernel_rfl
theorem TZ{M:Model}{Q:Unit->Shared->Prop}{h:Heap}{g:Array GenState}{d:Drawn}{t:Nat}{os:OsState}{o:Obj}{c:List Value}(Y:N7 M h C)(n:h.get? a=some o)(r:o.cls= .ref C)(q:Q () ⟨h,g,d,t,os⟩):wpAny M A (checkBuiltinCall "Exception.__init__" ⟨.ref a::c,[]⟩) Q E ⟨h,g,d,t,os⟩:=by
 have F:=vo;obtain⟨⟨v,D,u,y,B,z⟩,j,base,self,i,s,x,w,k,l⟩:=Y;have m:Looks M h (typeOf (.ref a)) (.ref C):=by have:=(uY (M:=M) (part:=some headPart) n).andThen (f:=fun o=>pure o.cls) (b:= .ref C) (by rw[<-r];exact .now);exact this
 have p:Looks M h (isInstance (.ref a) (.type "Exception")) true:=m.andThen i;have e:=F.noStar;simp only[checkBuiltinCall,F.initKind,F.initSplit,F.initRow];refine za (p.at ?_);simp only[Bool.not_true,yD,yW];unfold Bind.checkArgs;cbv;simp only[wk,check_star_args];refine za ?_;unfold Bind.printed;repeat lk
 exact q
theorem iK{o:HO}(h:H a=some o):Av H a o=H:=by
 funext b;unfold Av;split;·rename_i e;rw[e,h]
 ·rfl
section
variable{f:Addr}
theorem Vz(I:As X pins σ H s)(M:PK X.K C f)(h:H a=some (XO a C d))(w:∀m,As X pins σ H m->Q .none m):wpX X (call (.builtin "Exception.__init__") [.ref a]) Q E s:=by
 have F:=vo;obtain⟨j,l,n,p,z,y⟩:=I.xo h;have Y:=GQ (M:=model X.prog X.w) I.Gp M.makes;obtain⟨r,k⟩:∃v,j[0]?=some v:=⟨_,tV ∅⟩;have A:As X pins σ H {s with heap:=s.heap.push (Dg [])}:=I.kept (t':=s.toks) fun b u e=>zi _ e;have c:=zi (h:=s.heap) (Dg []) n;have o:As X pins σ (Av H a (XO a C d)) {s with heap:=(s.heap.push (Dg [])).update a (Obj.mapFields (·.setIfInBounds 0 (.ref s.heap.objs.size)))}:=by
  have i:=ye (Obj.mapFields (·.setIfInBounds 0 (Value.ref s.heap.objs.size))) c (vc (xZ rfl _));refine A.write (t':=s.toks) (x:=a) (e:=a) (by rw[h];trivial) (.inl rfl) (fun b u t e=>DD (zN t) e) ⟨_,i⟩ (XO.bf (vs:=j.setIfInBounds 0 (.ref s.heap.objs.size)) (sl:=l) i (by simp[p]) ?_ ?_);·rw[yz ⋯];exact z
  ·rw[yz ⋯];exact y
 rw[iK h]at o;obtain⟨D,g,G,B,os⟩:=s;refine vd (uP F.init.plain F.initEntry (TZ Y n rfl ?_));unfold Builtin.«BaseException.__init__»;cbv;rw[zb (by simp)];unfold newTuple Builtin.BaseException.bexcPut;refine za (wu (za (za (xg c rfl k (za (xA c rfl ∅ ?_))))) (by show([]:List Value).toArray.size<=sizeLine;simp));have fin:=w _ o;cases r with|ref q=>exact uN (zr fin) |_=>exact zr (zr fin)
def iP(K:Frag)(te:TE):TS:=fun D σ H=>te σ H fun x b=>∃a C f d,x= .ref a/\PK K C f/\b a=some (XO a C d)/\D.nx σ b
theorem Sb{o:Expr}{i c b e:Pos}(v:Gl X "Exception")(t:X.mg "Exception"=none)(r:PE X o te)(k:starEach [o] X.env=[(false,eval o X.env)]:=by rfl)(n:eval (.Call (.Attribute (.Name "Exception" i) "__init__" c) [o] [] b) X.env=(do
 let ov<-eval (.Name "Exception" i) X.env
 standAt c.atName
 let(f,first)<-holding [ov] (getMethod ov "__init__" pl)
 callWith b f first (backTo b (starEach [o] X.env)) (backToKw b (keywordEach [] X.env))):=by rfl)(p:swapsWith (.Call (.Attribute (.Name "Exception" i) "__init__" c) [o] [] b) none e.line X.env=pure false:=by rfl):PS X (.Expr (.Call (.Attribute (.Name "Exception" i) "__init__" c) [o] [] b) e) (iP X.K te):=by
 have m:PE X (.Call (.Attribute (.Name "Exception" i) "__init__" c) [o] [] b) (fun σ H Q=>te σ H fun x j=>∃a C f d,x= .ref a/\PK X.K C f/\j a=some (XO a C d)/\Q .Bz j):=by intro g s σ H Q I h;refine wR (pl:=pl) (Gm I v t Nz ?_) n;refine Qt I.Gp gg cF (cG X.K) ∎ (callWith_builtin1 ?_ k rfl);rw[k];refine vX (Bq (r g _ σ H _ (I.tok _) h) fun u A ⟨x,j,y,l,a,C,f,d,ex,M,w,q⟩=>tQ ?_);subst ex;obtain rfl:u=Value.ref a:=l;exact Vz y M w fun B z=>⟨.Bz,j,z,rfl,q⟩
 exact A2 m p
end
end L2
namespace L2
open PySem PySem.Spec PyProof.Rows PySem.Calls
open PySem.W (Frag Looks)
open Builtin Builtin.ObjectAttr
def Ds:List Value->Bool|[.type a,.type b,.type c]=>a=="Exception"&&b=="BaseException"&&c=="object"| .ref _::r=>Ds r|_=>false
theorem RY(self:Value):refuseLoop self "__setattr__" [.type "Exception",.type "BaseException",.type "object"]=pure ():=by kernel_rfl
theorem M4(self:Value):∀{l:List Value},Ds l=true->refuseLoop self "__setattr__" l=pure () |[.type a,.type b,.type c],e=>by simp only[Ds,zp,zP]at e;obtain⟨⟨rfl,rfl⟩,rfl⟩:=e;exact RY self| .ref c::r,e=>by rw[refuseLoop_ref];refine M4 self (l:=r) ?_;cases r with|nil=>cases e|cons x r=>exact e
theorem Xa:∀{l:List Value},Ds l=true->l.contains (.type "object")=true
|[.type a,.type b,.type c],e=>by simp only[Ds,zp,zP]at e;obtain⟨⟨rfl,rfl⟩,rfl⟩:=e;decide
| .ref c::r,e=>by
 have:Ds r=true:=by cases r with|nil=>cases e|cons x r=>exact e
 rw[rF,Xa this,Bool.or_true]
theorem Tv:∀{l:List Value},Ds l=true->l.contains (.type "BaseException")=true
|[.type a,.type b,.type c],e=>by simp only[Ds,zp,zP]at e;obtain⟨⟨rfl,rfl⟩,rfl⟩:=e;decide
| .ref c::r,e=>by
 have:Ds r=true:=by cases r with|nil=>cases e|cons x r=>exact e
 rw[rF,Tv this,Bool.or_true]
theorem To{h:Heap}{o u:Obj}(e:(h.push o).get? b=some u)(n:b≠h.objs.size):h.get? b=some u:=by obtain⟨d,c⟩:=Heap.get?_some_iff.mp e;refine Heap.get?_some_iff.mpr ⟨?_,c⟩;have a:(h.objs.push o)[b]?=some u:=d;rw[Array.getElem?_push,zb n]at a;exact a
structure VQ(K:Frag)(C:Addr)(name:Str):Prop where
 over:(clsIn K C).any (fun cd=>Ds cd.mro&&cd.hasDict)=true
 sa:findIn K (.ref C) "__setattr__"=some (some (.builtin "object.__setattr__"))
 ga:findIn K (.ref C) "__getattribute__"=some (some (.builtin "BaseException.__getattribute__"))
 gh:findIn K (.ref C) "__getattr__"=some none
 no:findIn K (.ref C) name=some none
section
variable{f:Addr}{name:Str}
theorem ey{Q:Unit->Shared->Prop}{v:V}(I:As X pins σ H s)(T:VQ X.K C name)(h:H a=some (XO a C none))(r:AW v u)(hQ:∀R G,H G=none->G≠a->As X pins σ (Av (Av H G (.xd [(name,v)])) a (XO a C (some G))) R->Q () R):wpX X (setAttr (.ref a) name u) Q E s:=by
 obtain⟨k,l,F,W,h1,h2⟩:=I.xo h;obtain⟨P,O,c⟩:=uX T.over;rw[zp]at c;have J:PySem.W.InstAt s.heap a {cls:= .ref C,dict:=none,data:= .fields k,slots:=l} C none:=⟨F,rfl,rfl,we⟩;have B:=I.Gp;refine rL B J T.sa ?_;have A:=PySem.F.store_object;have ne:P.mro.isEmpty=false:=by cases q:P.mro with|nil=>rw[q]at c;cases c.1|cons _ _=>rfl
 have U:PySem.W.InstAt ({s with toks:=s.toks+1}:Shared).heap a {cls:= .ref C,dict:=none,data:= .fields k,slots:=l} C none:=J;have K:Looks (model X.prog X.w) s.heap (isInstance (.ref a) (.type "object")) true:=J.type.andThen (uA B (by unfold mroIn;rw[O,wU,zb (by rw[ne];decide),Xa c.1]));refine uP A.slot.plain A.entry (@uI (model X.prog X.w) _ _ {s with toks:=s.toks+1} "object.__setattr__" "object" "__setattr__" (.ref a) [.str name s.toks,u] [] _ A.kind A.split K (A.args (.ref a) (.str name s.toks) u) ?_);have hm:Looks (model X.prog X.w) s.heap (mroOf (.ref C)) P.mro:=(vb B O).andThen .now;rw[osa_eq,refuse_eq];refine za (za (U.type.here (za (hm.here (s:={s with toks:=s.toks+1}) ?_))));rw[M4 _ c.1];refine zr (za (U.type.here (za ((xB B T.no).here (s:={s with toks:=s.toks+1}) (za (zr ?_))))));have z:=vb (M:=model X.prog X.w) B O;unfold storeInOwnDict;refine za (zr ?_);show wpAny _ _ (ownDictForStores (.ref a)>>=_) _ _ _;refine za ?_;show wpAny _ _ (instanceDict a true) _ _ _;unfold instanceDict;refine za (sP F ?_);cbv;refine za (z.here (s:={s with toks:=s.toks+1}) ?_);rw[c.2,zb ⋯,zb (show¬((!true||!typeHasDict (Value.ref C))=true) by show¬((!true||!true)=true);decide)];have e1:(s.heap.push emptyDict).get? s.heap.objs.size=some emptyDict:=zM s.heap rfl;have e3:(s.heap.push emptyDict).Ns s.heap.objs.size (fun Y=>none):=⟨emptyDict,#[],_,e1,rfl,(fun e he=>absurd he (by simp)),fun Y=>rfl⟩;have n1:(s.heap.push emptyDict).Ns1 s.heap.objs.size (fun Y=>none):=Heap.Ns1.of_empty e3;have n:=zi emptyDict F;have d:s.heap.objs.size≠a:=xl (zA F);refine za (sf (za (wpAny_update n ?_)));show wpAny _ _ (pure (some s.heap.objs.size)) _ _ _;refine zr ?_;cbv;unfold storeInDict;refine za (zr (za ?_));have L:({cls:= .ref C,dict:=some s.heap.objs.size,data:= .fields k,slots:=l}:Obj).isFreed=false:=rfl;have f:((s.heap.push emptyDict).update a fun o=>{o with dict:=some s.heap.objs.size}).get? a=some {cls:= .ref C,dict:=some s.heap.objs.size,data:= .fields k,slots:=l}:=ye _ n L;have n2:((s.heap.push emptyDict).update a fun o=>{o with dict:=some s.heap.objs.size}).Ns1 s.heap.objs.size (fun Y=>none):=n1.at fun o q=>DD (zN d) q;refine wpAny_nsSet1 n2 fun h' p m=>?_;obtain⟨D,a0,a1,g,i,N⟩:=p.count (rK name u (ns:=[]) fun y hy=>absurd rfl hy);refine za (wpAny_lookBehind g (by rw[i];exact pastItsLine_dict (z_ N (by show 1<=sizeLine+1;lia))) (zr ?_));show Q () _;have w:D.isFreed=false:=by obtain⟨Y,Y,dt,Y⟩:=D;dsimp only at i;subst i;rfl
 have j:H s.heap.objs.size=none:=I.Bw.fresh (ze _);have IA:As X pins σ (Av H s.heap.objs.size (.xd [(name,v)])) {s with heap:=s.heap.push D}:=by
  refine I.laid (t':=s.toks) (fun b u e=>zi _ e) (ze _) ⟨_,p.at fun o q=>?_,fun y=>?_⟩;·rw[g]at q;cases q;exact zM _ w
  ·rw[show([(name,v)]:List (Str×V))=Bx name v []from rfl,Gh];by_cases e:y=name;·rw[zc e,zc e];exact r
   ·rw[zb e,zb e];trivial
 refine hQ _ s.heap.objs.size j d ?_;have t:h'.get? a=some {cls:= .ref C,dict:=some s.heap.objs.size,data:= .fields k,slots:=l}:=(m.2 a (zN d)).trans f;refine IA.write (t':=_) (x:=a) (e:=a) (by rw[Ac (zN d),h];trivial) (.inl rfl) (fun b Z hb e=>?_) ⟨_,t⟩ (XO.bf t W h1 h2);by_cases eb:b=s.heap.objs.size;·subst eb;have S:(s.heap.push D).get? s.heap.objs.size=some Z:=e;rw[zM _ w]at S;cases S;exact g
 ·exact(m.2 b eb).trans (DD (zN hb) (zi _ (To e eb)))
theorem gb{v:V}{p:Addr}{B:List (Str×V)}{c:Obj}{b:Bool}(I:As X pins σ H s)(T:VQ X.K C name)(O:s.heap.get? a=some c)(o:c.cls= .ref C)(P:notCls c=true)(n:c.dict=some p)(W:H p=some (.xd B))(R:B.lookup name=some v)(Z:∀u w,AW v u->As X pins σ H w->Q u w):wpX X (getAttr (.ref a) name b) Q E s:=by
 obtain⟨mA,L,k⟩:=I.Bw p _ W;obtain⟨z,m,e⟩:=Pf L;obtain⟨D,A,f⟩:=uX T.over;rw[zp]at f;have J:PySem.W.InstAt s.heap a c C (some z):=⟨O,o,P,by rw[n];exact m⟩;have j:=I.Gp;have y:=k name;rw[R]at y;obtain⟨u,eu,x⟩:=y.some_of;have i:hasDictIn X.K C=true:=by unfold hasDictIn;rw[A];exact f.2
 have U:PySem.W.findObj X.K C (some z) name=some (.value u):=rh i T.no rfl (by rw[e,eu]);have fin:=Z u {s with toks:=s.toks+1} x (I.tok _);have N:=Pu x;obtain⟨h,g,d,t,os⟩:=s;have F:=J.type (M:=model X.prog X.w);have L1:=xB (M:=model X.prog X.w) j T.ga;have L2:=xB (M:=model X.prog X.w) j T.gh;have L3:=PySem.W.looks_find (M:=model X.prog X.w) j J U;have K:D.mro.isEmpty=false:=by cases q:D.mro with|nil=>rw[q]at f;cases f.1|cons _ _=>rfl
 have r:Looks (model X.prog X.w) h (isSubtype (.ref C) (.type "BaseException")) true:=uA j (by unfold mroIn;rw[A,wU,zb (by rw[K];decide),Tv f.1]);have G:=PySem.F.attrBase_Exception;have S:Looks (model X.prog X.w) h (isInstance (.ref a) (.type "BaseException")) true:=F.andThen r;unfold getAttr getAttrBy;refine za (wpAny_mkText (yR (za (F.at (za (L1.at ?_))))));cbv;have l:(Value.builtin "BaseException.__getattribute__"==Value.builtin "object.__getattribute__")=false:=∎;rw[l,vm,zb ⋯];unfold getAttrByItsOwn;have LH:Looks (model X.prog X.w) h (hookBefore (.ref C)) none:=rA j (by show findIn X.K (.ref C) "__getattr__"=_;exact T.gh);refine za (LH.at (za (wpAny_attempt (yR ?_))));unfold callGetattribute;rw[show(b&&onTheHeap (Value.builtin "BaseException.__getattribute__"))=false from by cases b<;>rfl,zb ⋯];unfold boundAndCalled;rw[G.ga.bind];refine za (zr ?_);show wpAny _ _ (call (.builtin "BaseException.__getattribute__") [.ref a,.str name t]) _ _ _;refine vd (uP G.ga.plain PySem.F.entry_bexc_ga (@uI (model X.prog X.w) _ _ _ "BaseException.__getattribute__" "BaseException" "__getattribute__" (.ref a) [.str name t] [] _ ∎ ∎ S (PySem.F.args_bexc_ga _ _) ?_));unfold Builtin.«object.__getattribute__»;repeat lk
 show wpAny _ _ (handedOut u) _ _ _;rw[sS N];exact zr fin
def YO(c:Bool)(a C:Addr)(d:Option Addr):HO:= .ext fun h=>∃b e,h.get? a=some {cls:= .ref C,dict:=d,data:= .fields b,slots:=e}/\b.size=6/\(c=true->b[2]?=some .none)
theorem As.yo{c:Bool}(I:As X pins σ H s)(h:H a=some (YO c a C d)):∃b e,s.heap.get? a=some {cls:= .ref C,dict:=d,data:= .fields b,slots:=e}/\b.size=6/\(c=true->b[2]?=some .none):=(I.Bw a _ h).1
theorem As.ly{o:HO}(I:As X pins σ H s)(j:Cf X pins H a)(g:B6 X.prog X.w (Av H a o) s.heap a o):As X pins σ (Av H a o) s:=by
 obtain⟨y,w,A,v,t,k⟩:=j;have d:∀b u,H b=some u->b≠a:=fun b u e z=>by rw[z,y]at e;cases e
 refine⟨I.ok,I.os,I.bare,⟨I.base.keep,I.base.slot,fun b f e n h=>?_,I.base.there,fun b xs e=>?_,fun b f u e=>?_,fun b ps e=>?_⟩,I.loc,I.cell,?_,fun x c e=>?_,fun p i=>?_,fun b u e=>?_,I.len⟩
 ·have:b≠a:=fun z=>by
   rcases v with q|q;·exact h (z▸q)
   ·have l:=zA e;rw[z]at l;exact yV _ (zF l q)
  rw[Ac this];exact I.base.free b f e n h
 ·have q:=I.base.tups b xs e;rw[Ac (d _ _ q)];exact q
 ·have q:=I.base.frzs b f u e;rw[Ac (d _ _ q)];exact q
 ·obtain⟨m,q⟩:=I.base.tbls b ps e;exact⟨m,by rw[Ac (d _ _ q)];exact q⟩
 ·rw[Ac (zN w)];exact I.free
 ·rw[Ac (t x c e)];exact I.CM x c e
 ·obtain⟨e,n,r⟩:=I.pin p i;exact⟨e,by rw[Ac (k p i)];exact n,r⟩
 ·by_cases q:b=a;·subst q;rw[Aa]at e;cases e;exact g
  ·rw[Ac q]at e;exact(I.Bw b u e).Im (fun Y Y Y z=>z) (fun c z=>by rw[Ac (d _ _ z)];exact z) fun c xs z=>by rw[Ac (d _ _ z)];exact z
def VT(K:Frag)(g:TE)(f:Str):TE:=fun σ H Q=>g σ H fun x b=>∃c a C e d v,x= .ref a/\b a=some (YO c a C (some e))/\VQ K C f/\b e=some (.xd d)/\d.lookup f=some v/\Q v b
theorem Qm{g:TE}{d:Pos}{f:Str}(n:PE X e g)(p:attributeBase e f X.env (eval e X.env)=eval e X.env):PE X (.Attribute e f d) (VT X.K g f):=by intro b s σ H Q I h;refine Xk p (Bq (n b s σ H _ I h) fun u A ⟨x,w,i,j,c,a,C,E,D,v,ex,r,T,o,m,q⟩=>?_);subst ex;obtain rfl:u=Value.ref a:=j;obtain⟨y,z,l,Y,Y⟩:=i.yo r;exact gb i T l rfl rfl rfl o m fun u B k t=>⟨v,w,t,k,q⟩
def mi(K:Frag)(e d:TE)(f:Str):TS:=fun D σ H=>d σ H fun y g=>e σ g fun x c=>∃a C,x= .ref a/\c a=some (XO a C none)/\VQ K C f/\∀b,c b=none->b≠a->D.nx σ (Av (Av c b (.xd [(f,y)])) a (XO a C (some b)))
theorem W9{o b:Expr}{i g:TE}{f:Str}{e c:Pos}(w:PE X o i)(t:PE X b g)(v:swapsWith b (some (.Attribute o f c)) e.line X.env=pure false):PS X (.Assign [.Attribute o f c] b e) (mi X.K i g f):=by intro d s σ H D I h;refine tT (Bq (t d s σ H _ I h) fun u j ⟨y,G,F,k,q⟩=>Bq (w d j σ G _ F q) fun n K ⟨x,L,E,l,a,C,ex,z,T,m⟩=>?_) v;subst ex;obtain rfl:n=Value.ref a:=l;exact ey E T z k fun J A r p B=>⟨σ,_,B,m A r p⟩
structure gK(K:Frag)(C0:Addr)(m:Str)(f:Addr):Prop where
 rd:readsIn K C0 (.type "type")=true
 qU:specialIn K (.ref C0) "__getattribute__"=some (some (.builtin "type.__getattribute__"))
 kp:keepIn K (.ref f)=true
 get:(match findCls K (.ref C0) (.type "type") m with|some (.val v)=>v== .ref f|_=>false)=true
theorem gK.val{K:Frag}{a:Addr}{m:Str}{f:Addr}(c:gK K a m f):findCls K (.ref a) (.type "type") m=some (.val (.ref f)):=by
 have g:=c.get;split at g;·rename_i v e;rw[e,zP.mp g]
 ·cases g
theorem Fs{u:Ib}{k:Nat}{v:Addr}{i:Sp}{E:XK}{m:Str}{j b a:Pos}{c:List Expr}{t:TA}(F:FE X.prog X.w X.K X.mg X.base u k f fd ps i)(A:Cj k X.A)(C:Gl X x)(B:X.mg x=some (.ref v))(g:gK X.K v m f)(G:Bm X.K fd ps [])(y:Cy u X E)(J:PA X (e::c) t)(n:(x==("__debug__":Str))=false:=by decide)(D:starEach (e::c) X.env=(false,eval e X.env)::starEach c X.env:=by rfl)(l:(backTo a (starEach c X.env)).any (·.1)=false:=by rfl)(z:eval (.Call (.Attribute (.Name x j) m b) (e::c) [] a) X.env=(do
 let ov<-eval (.Name x j) X.env
 standAt b.atName
 let(f,first)<-holding [ov] (getMethod ov m pl)
 callWith a f first (backTo a (starEach (e::c) X.env)) (backToKw a (keywordEach [] X.env))):=by rfl):PE X (.Call (.Attribute (.Name x j) m b) (e::c) [] a) (Kr i [] E t):=by intro d s σ H Q I h;refine wR (pl:=pl) (DL I C B ?_ n) z;refine PySem.W.method_cls I.Gp g.qU (PySem.W.cls_value I.Gp g.rd g.val rfl (xO (h₀:=X.base) I.ok.mod.dD g.kp (Bq (J a d _ σ H _ (I.tok _) h) fun us L ⟨w,K,p,r,q⟩=>⟨p.Gp,?_⟩) D l));have o:i (w++[]) K Q E:=q;rw[zR]at o;exact eO F A G y p r o
end
end L2
namespace L2
open PySem PySem.Spec PyProof.Rows PySem.Calls
open PySem.W (Frag Looks)
section
variable{f:Addr}
theorem Jc{M:Model}{Q:Unit->Shared->Prop}{n:Str}{C:Pos}(I:As X pins σ H s)(hN:X.N.Nodup)(Z:X.N[i]?=some n)(W:X.env.kindOf n=some .local)(h:∀B,As X pins (σ.set i none) H B->(∀b o,b≠X.env.locals->s.heap.get? b=some o->B.heap.get? b=some o)->Q () B):wpAny M A (do
 bindName X.env n .none
 unbindBehindTheSuite X.env n C) Q E s:=by
 obtain⟨m,J,V⟩:=id I.loc;have t:(X.env.scope.kind== .class||(X.env.scope.kind== .module&&X.env.locals !=X.env.globals))=false:=by rw[I.ok.kind];rfl
 have w:=I.nR;refine wpAny_nameGoes_keeps W J t fun h' v D f=>?_;obtain⟨oL,Y,Y,U,Y⟩:=id J;have a:FL X.prog X.w H h':=fun b P e=>by
  refine(I.Bw b P e).Im (fun c F g q=>(f.2 c ?_).trans q) (fun Y q=>q) fun Y Y q=>q;rintro rfl;rcases g with g|g;·rw[<-g,I.free]at e;cases e
  ·rw[I.free]at g;cases g
 refine h _ ⟨I.ok,I.os,I.bare,⟨fun b o e n u r=>?_,fun b o e n u r=>?_,I.base.free,fun b o e r=>?_,I.base.tups,I.base.frzs,I.base.tbls⟩,⟨_,D,fun j y K l x e3=>?_⟩,fun y c e=>?_,I.free,I.CM,fun p T=>?_,a,‹I.len›⟩ fun b o u e=>(f.2 b u).trans e;·exact(f.2 b (zV (zF (zA e) I.ok.above))).trans (I.base.keep b o e n u r)
 ·obtain⟨N,l⟩:=I.base.slot b o e n u r;exact⟨N,(f.2 b (zV (zF (zA e) I.ok.above))).trans l⟩
 ·obtain⟨R,l⟩:=I.base.there b o e r;exact⟨R,(f.2 b (zV (zF (zA e) I.ok.above))).trans l⟩
 ·by_cases hj:j=i;·subst hj;rw[uV]at x;simp at x
  ·rw[va (zN hj)]at x;obtain⟨L,O,q⟩:=V j y K l x e3;exists L,O;rcases q with⟨k,e⟩ |⟨k,c,e,z⟩;·refine .inl ⟨k,?_⟩;have:y≠n:=fun e=>hj (IP hN l (e▸Z));simp[this,e]
   ·exact .inr ⟨k,c,e,z.sameBut f (w y c e)⟩
 ·obtain⟨F,z⟩:=I.cell y c e;exact⟨F,z.sameBut f (w y c e)⟩
 ·obtain⟨e,n,G,S,d⟩:=I.pin p T;exact⟨(f.2 p.1 G).trans e,n,G,S,d⟩
abbrev Cx.NP(X:Cx)(a:Addr)(xe:Value->Shared->Prop):Cx:={X with A:=X.A.mark (some (.ref a)),calm:=false,xe:=xe}
theorem As.NP(I:As X pins σ H s)(a:Addr)(xe:Value->Shared->Prop):As (X.NP a xe) pins σ H s:=⟨⟨I.ok.mod,I.ok.kind,I.ok.glob,I.ok.blt,I.ok.above,I.ok.inj,I.ok.has,I.ok.kD,(fun z=>nomatch z),I.ok.frames,I.ok.Zw,I.ok.kY,I.ok.bs,I.ok.Zg,I.ok.UX,I.ok.Vy,I.ok.HU,I.ok.dE⟩,I.os,I.bare,I.base,I.loc,I.cell,I.free,I.CM,I.pin,I.Bw,I.len⟩
theorem As.LN(b:X.Ok)(I:As (X.NP a xe) pins σ H s):As X pins σ H s:=⟨b,I.os,I.bare,I.base,I.loc,I.cell,I.free,I.CM,I.pin,I.Bw,I.len⟩
abbrev Cx.dQ(X:Cx)(pn:List (Addr×Obj))(xe:Value->Shared->Prop):Cx:={X with pn:=pn,xe:=xe}
theorem As.dQ(I:As X pins σ H s)(xe:Value->Shared->Prop):As (X.dQ (X.pn++pins) xe) [] σ H s:=⟨⟨I.ok.mod,I.ok.kind,I.ok.glob,I.ok.blt,I.ok.above,I.ok.inj,I.ok.has,I.ok.kD,I.ok.hd,I.ok.frames,I.ok.Zw,I.ok.kY,I.ok.bs,I.ok.Zg,I.ok.UX,I.ok.Vy,I.ok.HU,I.ok.dE⟩,I.os,I.bare,I.base,I.loc,I.cell,I.free,I.CM,fun p a=>I.pin p (by rw[zR]at a;exact a),I.Bw,I.len⟩
theorem As.EG{a:List (Addr×Obj)}(b:X.Ok)(I:As (X.dQ (X.pn++pins) xe) a σ H s):As X pins σ H s:=⟨b,I.os,I.bare,I.base,I.loc,I.cell,I.free,I.CM,fun p c=>I.pin p (yB _ c),I.Bw,I.len⟩
theorem SP.EG{D:Ends}{d:Flow}{e:Shared}(c:X.Ok)(h:SP (X.dQ (X.pn++pins) xe) [] D d e):SP X pins D d e:=by cases d with|next=>obtain⟨a,b,I,q⟩:=h;exact⟨a,b,I.EG c,q⟩ |brk=>obtain⟨a,b,I,q⟩:=h;exact⟨a,b,I.EG c,q⟩ |cont=>obtain⟨a,b,I,q⟩:=h;exact⟨a,b,I.EG c,q⟩ |ret u=>obtain⟨v,a,b,I,r,q⟩:=h;exact⟨v,a,b,I.EG c,r,q⟩
theorem fL{c:Bool}{t:Addr}{Q:Unit->Shared->Prop}{b:String}{g:Option Addr}(I:As X pins σ H s)(j:Cf X pins H a)(i:Cf X pins H t)(x:ExcAt s.heap c a C d (some t))(h:∀f,As X pins σ H f->ExcAt f.heap c a C d (some t)->Q () f):wpAny (model X.prog X.w) A (do
 if(<-field (.ref a) 1)== .none then
  unsupported b
 setFlight (.ref a) g) Q E s:=by obtain⟨⟨n,o,l,p,m,q⟩,k⟩:=id x;refine za (xg l rfl m ?_);rw[zb (show¬(((Option.some t).elim Value.none Value.ref==Value.none)=true) by simp)];first|exact za (zr (GR I j (fun t' e=>by cases e;exact i) x g h)) |exact GR I j (fun t' e=>by cases e;exact i) x g h
theorem Rv{c:Bool}{E:XK}{n:Str}{pos:Pos}(W:kR X)(w:X.Ok)(S:X.N.Nodup)(Q:X.N[i]?=some n)(P:X.env.kindOf n=some .local)(T:C6 c X E)(a:Addr):C6 c (X.NP a fun x m=>wpAny (model X.prog X.w) (X.A.mark (some (.ref a))) (noteFrame x X.env) (fun Y h=>wpAny (model X.prog X.w) (X.A.mark (some (.ref a))) (do
 bindName X.env n .none
 unbindBehindTheSuite X.env n pos) (fun Y f=>wpAny (model X.prog X.w) (X.A.mark (some (.ref a))) (PySem.passOn "try.except-as" x X.env:Sem Flow) (fun Y Y=>False) (notedBy (model X.prog X.w) (X.A.mark (some (.ref a))) X.env (cameBackBy (model X.prog X.w) X.A X.env X.xe)) f) (fun y f=>wpAny (model X.prog X.w) (X.A.mark (some (.ref a))) (setFlight x none) (fun Y l=>(notedBy (model X.prog X.w) (X.A.mark (some (.ref a))) X.env (cameBackBy (model X.prog X.w) X.A X.env X.xe)) y l) (notedBy (model X.prog X.w) (X.A.mark (some (.ref a))) X.env (cameBackBy (model X.prog X.w) X.A X.env X.xe)) f) h) (notedBy (model X.prog X.w) (X.A.mark (some (.ref a))) X.env (cameBackBy (model X.prog X.w) X.A X.env X.xe)) m) E:=by
 intro g σ H s b C d tb I k V x q;have B:kR (X.NP a X.xe):=⟨W.Zw,W.px⟩;have I':As (X.NP a X.xe) g σ H s:=(I.LN w).NP a X.xe;refine L4 (X:=X.NP a X.xe) B I' k V x fun s1 r I1 t G=>?_;refine Jc (X:=X.NP a X.xe) I1 S Q P fun L I2 N=>?_;have v:ExcAt L.heap c b C d (some r):=G.keeps fun Z o R e=>N Z o (by
  rcases R with rfl|z;·exact k.2.1
  ·cases z;exact t.2.1) e;obtain⟨⟨vs,sl,O,hz,U,hc⟩,M⟩:=id v;unfold PySem.passOn;refine za (xg O rfl U ?_);rw[zb (show¬(((Option.some r).elim Value.none Value.ref==Value.none)=true) by simp)];have fin:∀j,As (X.NP a X.xe) g (σ.set i none) H j->ExcAt j.heap c b C d (some r)->notedBy (model X.prog X.w) (X.A.mark (some (.ref a))) X.env (cameBackBy (model X.prog X.w) X.A X.env X.xe) (.ref b) j:=fun j u p=>by refine L4 (X:=X.NP a X.xe) B u k (fun t' e=>by cases e;exact t) p fun s4 J I4 A F=>?_;refine fL (X:=X) (I4.LN w) k A F fun K I5 D=>?_;exact T g _ H K b C d (some J) I5 k (fun t' e=>by cases e;exact A) D q
 refine za (GR (X:=X.NP a X.xe) I2 k (fun t' e=>by cases e;exact t) v X.env.frame fun j u p=>?_);exact t_ (fin j u p)
end
theorem Tw{M:Model}{Q:Bool->Shared->Prop}{h:Heap}{g:Array GenState}{d:Drawn}{t:Nat}{os:OsState}{b:Addr}(Y:N7 M h b)(n:Looks M h (typeOf (.ref a)) (.ref C))(p:Looks M h (isSubtype (.ref C) (.ref b)) true)(q:Q true ⟨h,g,d,t,os⟩):wpAny M A (excMatches (.ref a) (.ref b)) Q E ⟨h,g,d,t,os⟩:=by
 obtain⟨⟨r,x,o,k,w,v⟩,c,base,self,l,m,u,s,e,i⟩:=Y;have j:Looks M h (typeOf (.ref b)) (.type "type"):=(uY k).andThen .now;have f:Looks M h (isInstance (.ref b) (.type "tuple")) false:=j.andThen (tL tc_notTuple);unfold excMatches;repeat lk
 exact q
section
variable{C0 f:Addr}
def oa(K:Frag)(N i:Nat)(j:Addr)(c:Bool)(E:XK)(h:TS)(g:Addr->TS):TS:=fun D σ H=>h D σ H/\∀a C d f,E (.ref C) d f->f a=none->subIn K (.ref C) (.ref j)=some true/\g a {nx:=fun b e=>D.nx (b.set i none) e,rt:=D.rt,bk:=fun b e=>D.bk (b.set i none) e,ct:=fun b e=>D.ct (b.set i none) e} ((List.replicate N none).set i (some (.ref a))) (Av f a (YO c a C d))
theorem Cf.EG{pn:List (Addr×Obj)}{a:List (Addr×Obj)}(h:Cf (X.dQ (X.pn++pins) xe) a H b):Cf X pins H b:=⟨h.1,h.2.1,h.2.2.1,h.2.2.2.1,h.2.2.2.2.1,fun p c=>h.2.2.2.2.2 p (yB _ c)⟩
theorem UO{c c':Bool}{A:List Stmt}{o:Stmt}{h:List Stmt}{n:Str}{np j O:Pos}{tb:TS}{ts:Addr->TS}{E E':XK}(W:kR X)(L:X.N.Nodup)(K:X.N[i]?=some n)(B:X.env.kindOf n=some .local)(hg:Gl X x)(hm:X.mg x=some (.ref C0))(M0:D7 X.K C0=true)(hb:∀pn xe,C6 c (X.dQ pn xe) E->Ri (X.dQ pn xe) A tb)(T:C6 c' X E')(hs:∀a xe,C6 c' (X.NP a xe) E'->Ri (X.NP a xe) (o::h) (ts a))(a5:(x==("__debug__":Str))=false:=by decide):PS X (.Try A [.ExceptHandler (some (.Name x np)) (some n) (o::h) j] [] [] O) (oa X.K X.N.length i C0 c E tb ts):=by
 intro b s σ H D I ⟨h1,h2⟩;refine wpAny_Try_except ?_;have Tk:C6 c (X.dQ (X.pn++b) fun e N=>wpX X (noteFrame e X.env) (fun _ m=>wpX X (setFlight e none) (fun _ p=>wpX X (handleBy e X.env [.ExceptHandler (some (.Name x np)) (some n) (o::h) j]) (SP X b D) X.xe p) X.xe m) X.xe N) E:=by
  intro a2 Z S s1 a C d a7 I1 fa ft ex q;have J1:As X b Z S s1:=I1.EG I.ok;have w:Cf X b S a:=Cf.EG (pn:=[]) fa;refine L4 W J1 w (fun t e=>Cf.EG (pn:=[]) (ft t e)) ex fun s2 t J2 f2 x2=>?_;refine GR J2 w (fun t' e=>by cases e;exact f2) x2 none fun U V x3=>?_;obtain⟨Q,a4⟩:=h2 a C d S q w.1;refine wpAny_handleBy_cons (codeAny_handlers_test ?_) (by intro q;cases q);refine DL (X:=X.NP a X.xe) (V.NP a X.xe) hg hm ?_ a5;have Y:=GQ (M:=model X.prog X.w) V.Gp M0;obtain⟨⟨vs,sl,ho,hz,a9,hc⟩,a8⟩:=id x3;have ty:Looks (model X.prog X.w) U.heap (typeOf (.ref a)) (.ref C):=(uY (part:=some headPart) ho).andThen .now;have sb:Looks (model X.prog X.w) U.heap (isSubtype (.ref C) (.ref C0)) true:=rg V.Gp Q;have P:codeAny (model X.prog X.w) (X.A.mark (some (.ref a))) (.handlers (.ref a) [.ExceptHandler none (some n) (o::h) j] X.env) (fun r m=>match r with
  | .ok f=>wpX X (do
   bindName X.env n .none
   unbindBehindTheSuite X.env n j) (fun _ p=>SP X b D f p) X.xe m
  | .error x=>cameBackBy (model X.prog X.w) X.A X.env X.xe x m) U:=by refine codeAny_handlers_suite_as (GR V w (fun t' e=>by cases e;exact f2) x3 none fun s4 J4 x4=>?_);have J5:As (X.NP a X.xe) b (List.replicate X.N.length none) S s4:=(J4.weak (by rw[yF,J4.len]) fun i v e=>by rw[ua]at e;split at e<;>cases e).NP a X.xe;obtain⟨⟨a0,a1,R,a3,_,a6⟩,_⟩:=id x4;have J6:As (X.NP a X.xe) b (List.replicate X.N.length none) (Av S a (YO c a C d)) s4:=J5.ly w ⟨⟨a0,a1,R,a3,a6⟩,⟨_,R⟩,fun _ _ ⟨vs,sl,e,r⟩ k=>⟨vs,sl,k _ e,r⟩⟩;refine Il (X:=X.NP a X.xe) (v:= .ref a) J6 L K (.inl B) rfl (fun s5 J7=>?_) (.inr B);have TH:=Rv (pos:=j) W I.ok L K B T a;refine yG (hs a _ TH b s5 _ _ _ ((J7.LN I.ok).NP a _) a4) (fun fl s6 y=>?_) fun e s' z=>z;cases fl with|next=>obtain⟨l,J,G,q⟩:=y;exact Jc (X:=X) (G.LN I.ok) L K B fun s7 F _=>⟨l.set i none,J,F,q⟩ |brk=>obtain⟨l,J,G,q⟩:=y;exact Jc (X:=X) (G.LN I.ok) L K B fun s7 F _=>⟨l.set i none,J,F,q⟩ |cont=>obtain⟨l,J,G,q⟩:=y;exact Jc (X:=X) (G.LN I.ok) L K B fun s7 F _=>⟨l.set i none,J,F,q⟩ |ret u=>obtain⟨v,l,J,G,r,q⟩:=y;exact Jc (X:=X) (G.LN I.ok) L K B fun s7 F _=>⟨v,l.set i none,J,F,r,q⟩
  obtain⟨hh,g,dr,tk,os⟩:=U;exact Tw Y ty sb P
 refine yG (hb _ _ Tk [] s σ H D (I.dQ _) h1) (fun fl s' y=>?_) fun e s' z=>z;cases fl with|next=>exact vn (SP.EG I.ok y) |brk=>exact SP.EG I.ok y|cont=>exact SP.EG I.ok y|ret u=>exact SP.EG I.ok y
end
theorem NG:entryFor table "proto.unchain"=some Builtin.«proto.unchain»:=entryFor_of_tree (by kernel_rfl)
theorem Us{w:World}{a:Addr}{o:Obj}{b:Array Value}{e:Value}(c:s.heap.get? a=some o)(d:o.data= .fields b)(f:b[2]?=some .none)(q:Q .none s):wpAny (model prog w) A (runValue (.builtin "proto.unchain" ⟨[e,.ref a,.ref a,.bool false],[]⟩)) Q E s:=by refine wpAny_runValue (uG NG ?_);unfold Builtin.«proto.unchain»;cbv;exact za (xg c d f (zr q))
section
variable{a0 f:Addr}{k:Nat}{sp:Sp}{E:XK}{p pos rpos cp:Pos}{t:TA}
def PU(b C:Addr)(g:Sp)(E:XK)(t:TA):TS:=fun Y σ H=>t σ H fun e f=>e.length<=sizeLine/\∀a,f a=none->g (.ref a::e) (Av f a (XO a C none)) (fun v c=>v= .Bz/\∃d i h,c a=some (XO a C d)/\c b=some (YO true b i h)/\b≠a/\E (.ref C) d (Li c a)) E0
theorem XF{Q:Flow->Shared->Prop}{xs Z:Sem Value}{V:Shared}(hh:X.A.handled=some (.ref a0))(M:PK X.K C f)(hx:C6 false X E)(h:wpX X xs (fun v W=>∃a d n U S,v= .ref a/\As X pins σ n W/\Cf X pins n a/\a0≠a/\n a0=some (YO true a0 U S)/\E (.ref C) d n/\∃i r,W.heap.get? a=some {cls:= .ref C,dict:=d,data:= .fields i,slots:=r}/\i.size=6/\i[1]?=some .none) X.xe V)(hc:∀s Q,Q Value.none s->wpX X Z Q X.xe s):wpX X (raiseStmt X.env (some xs) (some Z)) Q X.xe V:=by
 unfold raiseStmt;refine za (Bq h fun v s1 hv=>?_);obtain⟨a,d,n,U,S,rfl,I,P,F,O,q,i,r,N,J,h1⟩:=hv;obtain⟨ty,mt,nT,T⟩:=ZA (M:=model X.prog X.w) I.Gp M N rfl;refine za (yR (hc _ _ (za (zr ?_))));obtain⟨y,D,L,a1,m⟩:=I.yo O;have m:=m rfl;obtain⟨j,g,R,p,os⟩:=s1;dsimp only at ty mt nT T;have ef:∀(A:Around)(Q:Value->Shared->Prop)(E:Value->Shared->Prop),Q (.ref a) ⟨j,g,R,p,os⟩->wpAny (model X.prog X.w) A (excFromValue (.ref a) "exceptions must derive from BaseException") Q E ⟨j,g,R,p,os⟩:=by
  intro A Q E q;unfold excFromValue;repeat lk
  exact q
 refine za (yR (ef _ _ _ ?_));cbv;rw[zc ⋯];refine za (zr (za (xA N rfl ∅ ?_)));have t:(j.update a (Obj.mapFields (·.setIfInBounds 3 .none))).get? a=some {cls:= .ref C,dict:=d,data:= .fields (i.setIfInBounds 3 .none),slots:=r}:=ye _ N rfl;refine za (xA t rfl (by simp[J]) ?_);have c:((j.update a (Obj.mapFields (·.setIfInBounds 3 .none))).update a (Obj.mapFields (·.setIfInBounds 4 (.bool true)))).get? a=some {cls:= .ref C,dict:=d,data:= .fields ((i.setIfInBounds 3 .none).setIfInBounds 4 (.bool true)),slots:=r}:=ye _ t rfl;have w:((i.setIfInBounds 3 .none).setIfInBounds 4 (.bool true))[1]?=some Value.none:=by rw[yz ⋯,yz ⋯];exact h1
 have I2:As X pins σ n {heap:=(j.update a (Obj.mapFields (·.setIfInBounds 3 .none))).update a (Obj.mapFields (·.setIfInBounds 4 (.bool true))),gens:=g,drawn:=R,toks:=p,os:=os}:=I.Lp (t':=p) (ch:=[a]) (fun b o l e=>DD (fun z=>l (by simp[z])) (DD (fun z=>l (by simp[z])) e)) (fun b l=>by rw[zB.mp l];exact P);obtain⟨B,H,G,x⟩:=ZA (M:=model X.prog X.w) I2.Gp M c rfl;dsimp only at B H G x;have hf:Looks (model X.prog X.w) ((j.update a (Obj.mapFields (·.setIfInBounds 3 .none))).update a (Obj.mapFields (·.setIfInBounds 4 (.bool true)))) (field (.ref a) 1) .none:=by intro A Q E s k q;exact xg (k _ _ c) rfl w q
 repeat lk
 refine rq ?_;rw[hh];cbv;rw[zc (show(Value.ref a0 !=Value.ref a)=true by simp[F])];have u:((j.update a (Obj.mapFields (·.setIfInBounds 3 .none))).update a (Obj.mapFields (·.setIfInBounds 4 (.bool true)))).get? a0=some {cls:= .ref U,dict:=S,data:= .fields y,slots:=D}:=DD (zN F) (DD (zN F) L);refine za (yR (Us u rfl m (za (show wpAny _ _ (setField (.ref a) 2 (.ref a0)) _ _ _ from xA c rfl (by simp[J]) ?_))));have K:=ye (Obj.mapFields (·.setIfInBounds 2 (Value.ref a0))) c rfl;have I3:=I2.Lp (t':=p) (ch:=[a]) (h':=((j.update a (Obj.mapFields (·.setIfInBounds 3 .none))).update a (Obj.mapFields (·.setIfInBounds 4 (.bool true)))).update a (Obj.mapFields (·.setIfInBounds 2 (Value.ref a0)))) (fun b o l e=>DD (fun z=>l (by simp[z])) e) (fun b l=>by rw[zB.mp l];exact P);refine t_ (hx pins σ n _ a C d none I3 P (fun Y z=>nomatch z) ⟨⟨((i.setIfInBounds 3 .none).setIfInBounds 4 (.bool true)).setIfInBounds 2 (.ref a0),r,K,by simp[J],?_,fun z=>nomatch z⟩,fun Y z=>nomatch z⟩ q);rw[yz ⋯];exact w
theorem OQ{j:Nat}(M:PK X.K C f)(F:FE X.prog X.w X.K X.mg X.base PM k f fd ps sp)(O:Cj (k+1) X.A)(T:Gl X x)(R:X.mg x=some (.ref C))(V:Bm X.K fd ps [])(S:X.A.handled=some (.ref a0))(N:C6 false X E)(W:PA X (e::es) t)(w:(x==("__debug__":Str))=false:=by decide)(U:starEach (e::es) X.env=(false,eval e X.env)::starEach es X.env:=by rfl)(u:(backTo pos (starEach es X.env)).any (·.1)=false:=by rfl):PS X (.Raise (some (.Call (.Name x p) (e::es) [] pos)) (some (.Constant .none j cp)) rpos) (PU a0 C sp E t):=by
 intro b s σ H D I h;rw[sR];refine za (xb ?_);show wpAny _ _ (raiseStmt X.env (some (do
  let v<-eval (.Call (.Name x p) (e::es) [] pos) X.env
  standAt rpos
  pure v)) (some (do
  let v<-eval (.Constant .none j cp) X.env
  standAt rpos
  pure v))) _ _ _;refine XF (pins:=b) (σ:=σ) S M N (za ?_) (fun s Q q=>za (Constant_none (za (xb (zr q)))));refine Bq (Q:=fun v g=>∃a d l z y,v= .ref a/\As X b σ l g/\Cf X b l a/\a0≠a/\l a0=some (YO true a0 z y)/\E (.ref C) d l/\∃c n,g.heap.get? a=some {cls:= .ref C,dict:=d,data:= .fields c,slots:=n}/\c.size=6/\c[1]?=some .none) ?_ fun v g o=>za (xb (zr o));refine yX (DL I T R ?_ w);refine xO (h₀:=X.base) I.ok.mod.dD M.kp (Bq (W pos b s σ H _ I h) fun us s1 ⟨c,H1,i,r,L,K⟩=>⟨i.Gp,?_⟩) U u;refine Bq (OL M F O V i r L (K _ (i.Bw.fresh (wG _)))) fun v g o=>?_;obtain⟨rfl,H2,G,d,z,y,B,e3,A,q⟩:=o;obtain⟨m,n,P,J,Z,h2⟩:=G.xo B;exact⟨_,d,_,z,y,rfl,G.il B,i.JZ (wG _) EZ,A,by rw[BX A];exact e3,q,m,n,P,J,Z⟩
end
end L2
namespace L2
open PySem PySem.Spec PyProof.Rows
section
variable{P:Program}{w:World}{K:Frag}{mg:Str->Option Value}{base:Heap}
theorem En.Ju{c:Bool}{e:Stmt}{f:Addr}{k:Nat}{g:Sp}(F:En K x qual e f fd)(S:Ah N ps (Ad e))(b:∀{a:Value}{A:Around}{outer:List Env}{s:Shared}{d:List V}(H:Hp)(Q:VK)(E:XK),AV k (A.deeper (envOfC qual (Ad e) s.heap.objs.size f a))->g d H Q E->C6 c (Jh (YY c P w) P w K mg base N qual (Ad e) f a A outer s H E) E->∃t,Ri (Jh (YY c P w) P w K mg base N qual (Ad e) f a A outer s H E) (DN e) t/\t {nx:=fun Y q=>Q .Bz q,rt:=Q} (start N d) H)(i:∀d H Q E,g d H Q E->d.length=ps.length:=by intro Y Y Y Y h;cases h;subst_vars;rfl):D9 P w K mg base (YY c P w) (k+1) f fd ps g:=by obtain⟨v,u,y,p,r,z,a,ct,m,rfl,n,l⟩:=F.ex;exact ib n l S i fun A outer s H d Q E o j=>b H Q E o j Zn
theorem En.fq{d:Stmt}{f:Addr}{k:Nat}{e:Sp}(F:En K x qual d f fd)(S:Ah N ps (Ad d))(a:∀{b:Value}{A:Around}{outer:List Env}{s:Shared}{c:List V}(H:Hp)(Q:VK)(E:XK),Cj k (A.deeper (envOfC qual (Ad d) s.heap.objs.size f b))->e c H Q E->∃t,Ri (k_ PM P w K mg base N qual (Ad d) f b A outer s H E) (DN d) t/\t {nx:=fun Y p=>Q .Bz p,rt:=Q} (start N c) H)(g:∀c H Q E,e c H Q E->c.length=ps.length:=by intro Y Y Y Y h;cases h;subst_vars;rfl):FE P w K mg base PM (k+1) f fd ps e:=by obtain⟨u,r,v,o,q,y,b,ct,l,rfl,m,j⟩:=F.ex;exact ki m j S g fun A outer s H c Q E n i=>a H Q E n i
end
section
variable{w:World}
theorem UY{e d:Addr}{f:Array Value}{x:Value}(c:s.heap.IsTupleIter e d i)(m:s.heap.IsTuple d f)(l:f[i]?=some x)(n:∀k,k.IsTupleIter e d (i+1)->Heap.SameBut e s.heap k->Q x {s with heap:=k}):wpAny (model prog w) A (Builtin.SmallTypes.nextOf (.ref e)) Q E s:=by obtain⟨p,b,j,a⟩:=id c;obtain⟨o,g,Y,r,h⟩:=m;unfold Builtin.SmallTypes.nextOf;refine za (rJ (name:=Str.ofString "__next__") c.typeIs xC (wpAny_call_entry xC c.typeIs uK ?_ (uJ _)));refine(show wpAny _ _ (field (.ref e) 0>>=_) _ _ s from za (xg b a (x:= .ref d) rfl ?_));refine(show wpAny _ _ (if(Value.ref d==Value.none)=true then _ else _) _ _ s from ?_);rw[zb (by intro q;cases q)];refine(show wpAny _ _ (field (.ref e) 1>>=_) _ _ s from za (xg b a (x:= .int i 0) rfl ?_));refine(show wpAny _ _ (seqItems? (.ref d)>>=_) _ _ s from za (vQ g h ?_));simp only[wO,l];refine za (xA b a (by simp) (zr ⟨x,rfl,zr (n _ ⟨_,ye _ b (vc (xZ a _)),(Obj.cls_mapFields ..).trans j,?_⟩ (Heap.SameBut.update ..))⟩));rw[xZ a];simp[rawInt]
theorem Ga{h f:Addr}{g:Array Value}(n:A.handled=none)(c:s.heap.IsTupleIter h f i)(r:s.heap.IsTuple f g)(p:g[i]?=none)(u:∀l e,Heap.ExtBut h s.heap l->(∃o,l.get? e=some o/\o.cls= .type "StopIteration")->E (.ref e) {s with heap:=l}):wpAny (model prog w) A (Builtin.SmallTypes.nextOf (.ref h)) Q E s:=by
 obtain⟨y,b,t,d⟩:=id c;obtain⟨v,j,Y,z,k⟩:=r;unfold Builtin.SmallTypes.nextOf;refine za (rJ (name:=Str.ofString "__next__") c.typeIs xC (wpAny_call_entry xC c.typeIs uK ?_ (uJ _)));refine(show wpAny _ _ (field (.ref h) 0>>=_) _ _ s from za (xg b d (x:= .ref f) rfl ?_));refine(show wpAny _ _ (if(Value.ref f==Value.none)=true then _ else _) _ _ s from ?_);rw[zb (by intro q;cases q)];refine(show wpAny _ _ (field (.ref h) 1>>=_) _ _ s from za (xg b d (x:= .int i 0) rfl ?_));refine(show wpAny _ _ (seqItems? (.ref f)>>=_) _ _ s from za (vQ j k ?_));simp only[wO,p];refine za (wpAny_rule (za (xA b d (by simp) (show wpAny _ _ (newExc (.type "StopIteration") []>>=_) _ _ _ from za ?_))));simp only[newExc,newTuple];refine za (wu (za (m:=firstArgMember _ _) (wpAny_of_eq (a:=Value.none) (by first|rfl|(simp only[firstArgMember];rfl)) (wu ?_ (by size_fits)))) (by size_fits));simp only[raiseNew];refine za (rq ?_);first|rw[show A.in1.handled=none from n] |rw[n]
 exact za (zr (t_ (u _ _ (((Heap.SameBut.update ..).extBut.push _).push _) ⟨_,zM _ rfl,rfl⟩)))
end
theorem YA{w:World}(l:A.handled=none)(d c:Addr)(f:c≠d)(b:Array Value):Draws prog w A d [d,c] b.size (fun i v=>b[i]?=some v) (fun i h=>h.IsTupleIter d c i/\h.IsTuple c b)where
 live:=fun Y Y a=>let⟨o,ho,_⟩:=a.1;⟨o,ho⟩
 frame:=fun Y Y Y a g=>⟨a.1.at fun o e=>g d (by simp) o e,let⟨o,ho,r⟩:=a.2;⟨o,g c (by simp) o ho,r⟩⟩
 item:=fun i s Q E j a m=>UY a.1 a.2 (x:=b[i]) (by simp[j]) fun q p k=>m _ q s.toks (by simp[j]) ⟨p,let⟨o,ho,r⟩:=a.2;⟨o,(k.2 c f).trans ho,r⟩⟩ k
 done:=fun s Q E a n=>Ga l a.1 a.2 (by simp) n
def dy(x:Str):It:=⟨fun i Y=>i<x.cps.size,fun i H v a=>∃T c,v= .ref T/\H T=none/\x.cps[i]?=some c/\a=Av H T (.tup [.int (i:Nat),.str ⟨#[c]⟩]),fun i Y=>x.cps.size<=i⟩
def dw(K:Frag)(a:Addr):It:=⟨fun i H=>∃(xs:List V)(x:V),Em K H a xs/\xs[i]?=some x,fun i H v b=>∃T x,v= .ref T/\H T=none/\b=Av H T (.tup [.int (i:Nat),x])/\∀xs,Em K H a xs->xs[i]?=some x,fun i H=>∃xs:List V,Em K H a xs/\xs.length<=i⟩
theorem Uw{P:Program}{w:World}{K:Frag}{kk:Nat}{C:Pos}(x:Str)(t:Tok)(e a:Addr)(B:String)(F:B="str_ascii_iterator"\/B="str_iterator"):Turn P w K (.Tuple elts kk C) (dy x) [e,a] e (fun i h=>(∃f,IsEnum h e a ((i:Nat):Int) f)/\h.IsStrIter a B x t i/\e≠a/\i<=x.cps.size)where
 mem:=by simp
 obj:=fun i h l b j=>by
  obtain⟨⟨f,g⟩,⟨o,G,y,hd⟩,Y,Y⟩:=l;have e':b=e\/b=a:=‹j›;rcases e' with z|z;·rw[z];exact⟨_,g,fun v q=>nomatch q⟩
  ·rw[z];exact⟨o,G,fun v q=>by rw[hd]at q;cases q⟩
 keep:=fun i h h' l k=>let⟨⟨f,g⟩,⟨o,G,r⟩,d,hl⟩:=l;⟨⟨f,k e (by simp) _ g⟩,⟨o,k a (by simp) o G,r⟩,d,hl⟩
 item:=by
  intro X hP U hK y i n s σ H E I R l W;subst hP U hK;obtain⟨⟨f,g⟩,m,d,J⟩:=l;have M:i<x.cps.size:=W;have N:e<s.heap.objs.size:=zA g;have V:a<s.heap.objs.size:=by obtain⟨Y,q,Y⟩:=m;exact zA q
  have D:Draws X.prog X.w X.A.in1 a [a] x.cps.size (fun i v=>∃c u,x.cps[i]?=some c/\v= .str ⟨#[c]⟩ u) (fun i h=>h.IsStrIter a B x t i):=by
   rcases F with rfl|rfl;·exact Draws.strAscii (show X.A.in1.handled=none from I.ok.hd y) a x t
   ·exact Draws.strWide (show X.A.in1.handled=none from I.ok.hd y) a x t
  refine rH D g m M d ‹d› fun v h' O hv G L hT a3 hk=>?_;obtain⟨c,u,a0,rfl⟩:=hv;refine⟨_,rfl,vT (s:={s with heap:=h',toks:=O+1}) G fun p Z S=>?_⟩;have a2:p.get? s.heap.objs.size=some {cls:= .type "tuple",data:= .seq #[.int i O,.str ⟨#[c]⟩ u]}:=(S.2 _ (xl N)).trans hT;have T:B6 X.prog X.w (Av H s.heap.objs.size (.tup [.int (i:Nat),.str ⟨#[c]⟩])) p s.heap.objs.size (.tup [.int (i:Nat),.str ⟨#[c]⟩]):=⟨by show 2<=sizeLine;decide,[.int i O,.str ⟨#[c]⟩ u],.cons ⟨_,rfl⟩ (.cons ⟨_,rfl⟩ .nil),⟨_,a2,rfl,_,rfl⟩⟩;have I1:As X n σ (Av H s.heap.objs.size (.tup [.int (i:Nat),.str ⟨#[c]⟩])) {s with heap:=p,toks:=O+1}:=I.Jy (ch:=[e,a]) (fun b ob j q=>(S.2 b (fun z=>j (by simp[z]))).trans (hk b ob (fun z=>j (by simp[z])) (fun z=>j (by simp[z])) q)) R (ze _) T;refine⟨.ref s.heap.objs.size,_,I1,rfl,⟨_,c,rfl,I.Bw.fresh (ze _),a0,rfl⟩,⟨⟨.str ⟨#[c]⟩ u,?_⟩,let⟨o,ho',r⟩:=L;⟨o,(S.2 a (zN d)).trans ho',r⟩,d,M⟩,fun b j=>?_⟩;·have e1:((i+1:Nat):Int)=(i:Int)+1:=∅;rw[e1];exact Z
  ·have a1:b<s.heap.objs.size:=by
    have e':b=e\/b=a:=‹j›;rcases e' with z|z;·rw[z];exact N
    ·rw[z];exact V
   rw[Ac (zV a1)];exact(R b j).1
 done:=by
  intro X hP U hK y i n s σ H E I R l W;subst hP U hK;obtain⟨⟨f,g⟩,m,d,J⟩:=l;have hi:i=x.cps.size:=qe J W;subst hi;obtain⟨f0,f1,f2,f3,f4,f5⟩:=R a (by simp);have D:Draws X.prog X.w X.A.in1 a [a] x.cps.size (fun i v=>∃c u,x.cps[i]?=some c/\v= .str ⟨#[c]⟩ u) (fun i h=>h.IsStrIter a B x t i):=by
   rcases F with rfl|rfl;·exact Draws.strAscii (show X.A.in1.handled=none from I.ok.hd y) a x t
   ·exact Draws.strWide (show X.A.in1.handled=none from I.ok.hd y) a x t
  exact rT D g m fun h' eb=>⟨rfl,I.turned (t':=s.toks) (fun b o j q=>eb b o j q) f0 f1 f3 f4 f5⟩
 self:=fun A i s Q E l h=>let⟨⟨_,g⟩,_⟩:=l;wq g h
def jX(b:TA):TI:=fun σ H R=>b σ H fun a c=>∃x,a=[.str x]/\R (dy x) c
theorem IH{X:Cx}{l:TA}{p f d:Pos}{w:Nat}(D:Gl X "enumerate")(B:X.mg "enumerate"=none)(F:PA X [e] l)(A:starEach [e] X.env=[(false,eval e X.env)]:=by rfl):PI X (.Tuple elts w d) (.Call (.Name "enumerate" p) [e] [] f) (jX l):=by
 intro c s σ H R I h;refine Call_ (Gm I D B boot_enumerate (yK (Bq (F f c s σ H _ I h) fun us a ⟨L,n,k,u,v⟩=>?_) A rfl));obtain⟨x,ex,q⟩:=v;subst ex;cases u with
 |cons r o=>
  cases o;obtain⟨t,rfl⟩:=r;refine call_enumerate_str fun G m j y C=>wq m ?_;have K:As X c σ n {a with heap:=G}:=k.kept (t':=a.toks) C;have i:strIterType x="str_ascii_iterator"\/strIterType x="str_iterator":=by unfold strIterType;split<;>simp
  refine⟨a.heap.objs.size+1,[a.heap.objs.size+1,a.heap.objs.size],_,_,n,rfl,K,Uw x t (a.heap.objs.size+1) a.heap.objs.size _ i,⟨⟨.none,m⟩,j,vZ _,zx _⟩,fun b E=>?_,q⟩;have J:b=a.heap.objs.size+1\/b=a.heap.objs.size:=‹E›;have g:a.heap.objs.size<=b:=by
   rcases J with z|z;·rw[z];exact u_ _ _
   ·rw[z];exact ze _
  exact k.JZ g (k.Bw.fresh g)
theorem NV{w:World}(k:A.handled=none)(d c:Addr)(i:Nat)(b:Array Value)(g:b[i]?=none):Draws prog w A d [d,c] 0 (fun Y Y=>True) (fun Y h=>h.IsTupleIter d c i/\h.IsTuple c b)where
 live:=fun Y Y a=>let⟨o,ho,_⟩:=a.1;⟨o,ho⟩
 frame:=fun Y Y Y a f=>⟨a.1.at fun o e=>f d (by simp) o e,let⟨o,ho,r⟩:=a.2;⟨o,f c (by simp) o ho,r⟩⟩
 item:=fun i s Q E j a m=>absurd j (xc _)
 done:=fun s Q E a l=>Ga k a.1 a.2 g l
theorem Uv{P:Program}{w:World}{K:Frag}{kk:Nat}{y:Pos}(a e d:Addr)(a0:e≠a)(W:d≠a):Turn P w K (.Tuple elts kk y) (dw K a) [e,d] e (fun i h=>(∃f,IsEnum h e d ((i:Nat):Int) f)/\h.IsTupleIter d a i/\e≠d)where
 mem:=by simp
 obj:=fun i h m b l=>by
  obtain⟨⟨f,j⟩,⟨o,T,L,hd⟩,Y⟩:=m;have e':b=e\/b=d:=‹l›;rcases e' with z|z;·rw[z];exact⟨_,j,fun v q=>nomatch q⟩
  ·rw[z];exact⟨o,T,fun v q=>by rw[hd]at q;cases q⟩
 keep:=fun i h h' m k=>let⟨⟨f,j⟩,hi,c⟩:=m;⟨⟨f,k e (by simp) _ j⟩,hi.at fun o q=>k d (by simp) o q,c⟩
 item:=by
  intro X hP S hK L i r s σ H E I J m Z;subst hP S hK;obtain⟨⟨f,j⟩,n,c⟩:=m;obtain⟨xs,x,G,R⟩:=Z;obtain⟨g,N,p,hz⟩:=I.tuple G;obtain⟨u,hu,ru⟩:=N.get R;have C:e<s.heap.objs.size:=zA j;have V:d<s.heap.objs.size:=by obtain⟨Y,q,Y⟩:=n;exact zA q
  have U:i<g.toArray.size:=by have:=(z8.mp hu).1;simpa using this
  have D:=YA (prog:=X.prog) (w:=X.w) (show X.A.in1.handled=none from I.ok.hd L) d a (zN W) g.toArray;refine rH D j ⟨n,p⟩ U c (by simp[c,a0]) fun v h' F hv T B hT a4 hk=>?_;obtain rfl:v=u:=by have:g.toArray[i]?=some u:=‹hu›;exact zt (hv.symm.trans this)
  refine⟨_,rfl,vT (s:={s with heap:=h',toks:=F+1}) T fun t a1 M=>?_⟩;have a3:t.get? s.heap.objs.size=some {cls:= .type "tuple",data:= .seq #[.int i F,v]}:=(M.2 _ (xl C)).trans hT;have O:B6 X.prog X.w (Av H s.heap.objs.size (.tup [.int (i:Nat),x])) t s.heap.objs.size (.tup [.int (i:Nat),x]):=⟨by show 2<=sizeLine;decide,[.int i F,v],.cons ⟨_,rfl⟩ (.cons ru .nil),⟨_,a3,rfl,_,rfl⟩⟩;have I1:As X r σ (Av H s.heap.objs.size (.tup [.int (i:Nat),x])) {s with heap:=t,toks:=F+1}:=I.Jy (ch:=[e,d]) (fun b ob l q=>(M.2 b (fun z=>l (by simp[z]))).trans (hk b ob (fun z=>l (by simp[z])) (fun z=>l (by simp[z])) q)) J (ze _) O;refine⟨.ref s.heap.objs.size,_,I1,rfl,⟨_,x,rfl,I.Bw.fresh (ze _),rfl,fun ys hy=>by rw[I.Om hy G];exact R⟩,⟨⟨v,?_⟩,B.1.at fun o q=>(M.2 d (zN c)).trans q,c⟩,fun b l=>?_⟩;·have e1:((i+1:Nat):Int)=(i:Int)+1:=∅;rw[e1];exact a1
  ·have a2:b<s.heap.objs.size:=by
    have e':b=e\/b=d:=‹l›;rcases e' with z|z;·rw[z];exact C
    ·rw[z];exact V
   rw[Ac (zV a2)];exact(J b l).1
 done:=by intro X hP S hK L i r s σ H E I J m Z;subst hP S hK;obtain⟨⟨f,j⟩,n,c⟩:=m;obtain⟨xs,G,R⟩:=Z;obtain⟨g,N,p,hz⟩:=I.tuple G;obtain⟨f0,f1,f2,f3,f4,f5⟩:=J d (by simp);have hl:=N.length;exact rT (NV (show X.A.in1.handled=none from I.ok.hd L) d a i g.toArray (by simp;lia)) j ⟨n,p⟩ fun h' eb=>⟨rfl,I.turned (t':=s.toks) (fun b o l q=>eb b o l q) f0 f1 f3 f4 f5⟩
 self:=fun A i s Q E m h=>let⟨⟨_,j⟩,_⟩:=m;wq j h
open AutoSeq1 (wpAny_loadPart') in theorem Y7(t0:Addr)(its:Array Value)(n:Nat)(dc:Option Addr)(ss:Array (Option Value)):Meets (Builtin.«enumerate.__new__» ⟨[.type "enumerate",.ref t0],[]⟩) (fun _ R s=>s.heap.get? t0=some {cls:= .type "tuple",dict:=dc,data:= .seq its n,slots:=ss}/\R (.ok (.ret (.ref (s.heap.push {cls:= .type "tuple_iterator",data:= .fields #[.ref t0,.int 0 0]}).objs.size))) {s with heap:=(s.heap.push {cls:= .type "tuple_iterator",data:= .fields #[.ref t0,.int 0 0]}).push {cls:= .type "enumerate",data:= .fields #[.none,.bool false,.ref s.heap.objs.size,rawInt 0,.none,.none]}}):= .of_wp fun prog w A R s h=>by
 obtain⟨hp,g,d,tk,os⟩:=s;obtain⟨ht,h⟩:=h;have hsub:=sub_enumerate;have hT:Heap.IsTuple (Shared.heap ⟨hp,g,d,tk,os⟩) t0 its:=⟨_,ht,rfl,n,rfl⟩;wp_walk using wQ ht;refine wpAny_stack_any fun st=>zr ?_;split
 ·rename_i c _ _ _ _ _;cases(c==Value.type "enumerate");·wp_walk using wQ ht,vR hT;exact⟨_,rfl,h⟩
  ·wp_walk using wQ ht,vR hT;exact⟨_,rfl,h⟩
 ·wp_walk using wQ ht,vR hT;exact⟨_,rfl,h⟩
theorem VE{w:World}{d:Addr}{a:Array Value}(l:s.heap.IsTuple d a)(h:∀e,IsEnum e (s.heap.objs.size+1) s.heap.objs.size 0 .none->e.IsTupleIter s.heap.objs.size d 0->(∀b o,s.heap.get? b=some o->e.get? b=some o)->Q (.ref (s.heap.objs.size+1)) {s with heap:=e}):wpAny (model prog w) A (call (.type "enumerate") [.ref d]) Q E s:=by obtain⟨⟨c,q,p,k⟩,m,i,n,g⟩:=l;replace i:c= .type "tuple":=i;replace g:p= .seq a n:=g;subst i g;refine callType_new F.called_enumerate ⋯ (F.typeCall_enumerate_1 _) (F.newCall_enumerate_1 _) (fun obj=>F.args_object_init_2 obj _) F.entry_enumerate_new (Y7 d a n q k) ⟨m,?_⟩;have j:(s.heap.push {cls:= .type "tuple_iterator",data:= .fields #[.ref d,.int 0 0]}).objs.size=s.heap.objs.size+1:=yk ..;show _/\_;rw[j];have f:=zM (s.heap.push {cls:= .type "tuple_iterator",data:= .fields #[.ref d,.int 0 0]}) (o:={cls:= .type "enumerate",data:= .fields #[.none,.bool false,.ref s.heap.objs.size,rawInt 0,.none,.none]}) rfl;rw[j]at f;exact⟨⟨_,f,rfl⟩,h _ f ⟨_,zi _ (zM _ rfl),rfl,rfl⟩ fun b o x=>zi _ (zi _ x)⟩
def jW(K:Frag)(d:TA):TI:=fun σ H R=>d σ H fun c b=>∃a xs,c=[.ref a]/\Em K b a xs/\R (dw K a) b
theorem aI{X:Cx}{m:TA}{p g f:Pos}{x:Nat}(E:Gl X "enumerate")(C:X.mg "enumerate"=none)(G:PA X [e] m)(A:starEach [e] X.env=[(false,eval e X.env)]:=by rfl):PI X (.Tuple elts x f) (.Call (.Name "enumerate" p) [e] [] g) (jW X.K m):=by
 intro d s σ H R I h;refine Call_ (Gm I E C boot_enumerate (yK (Bq (G g d s σ H _ I h) fun us c ⟨M,t,k,v,w⟩=>?_) A rfl));obtain⟨a,xs,ex,B,q⟩:=w;subst ex;cases v with
 |cons r u=>
  cases u;cases r;obtain⟨y,N,n,O⟩:=k.tuple B;have j:a<c.heap.objs.size:=by obtain⟨Y,q,Y⟩:=n;exact zA q
  refine VE n fun J o l D=>wq o ?_;have L:As X d σ t {c with heap:=J}:=k.kept (t':=c.toks) D;refine⟨c.heap.objs.size+1,[c.heap.objs.size+1,c.heap.objs.size],_,_,t,rfl,L,Uv a (c.heap.objs.size+1) c.heap.objs.size (xl (yM j)) (xl j),⟨⟨.none,o⟩,l,vZ _⟩,fun b F=>?_,q⟩;have K:b=c.heap.objs.size+1\/b=c.heap.objs.size:=‹F›;have i:c.heap.objs.size<=b:=by
   rcases K with z|z;·rw[z];exact u_ _ _
   ·rw[z];exact ze _
  exact k.JZ i (k.Bw.fresh i)
def signs(x:Str):List V:=x.cps.toList.map fun c=>V.str ⟨#[c]⟩
theorem LM{x:Str}:∀(l:List Value)(a:List Nat),l.length=a.length->(∀(j:Nat)(v:Value),l[j]?=some v->∃c u,a[j]?=some c/\v=Value.str ⟨#[c]⟩ u)->AF (a.map fun c=>V.str ⟨#[c]⟩) l|[],[],_,_=> .nil|v::l,c::a,b,h=>by obtain⟨f,u,e,d⟩:=h 0 v rfl;cases e;exact .cons ⟨u,d⟩ (LM (x:=x) l a ‹b› fun j v q=>h (j+1) v q)
theorem VD(n:X.calm=true):FG X (.type "list") (fun xs H Q=>∃x,xs=[.str x]/\x.cps.size<=sizeLine/\∀l,H l=none->Q (.ref l) (Av H l (.lst (signs x)))):=by intro b s σ H xs us Q I r h;obtain⟨x,rfl,d,q⟩:=h;obtain⟨u,rfl,t,rfl⟩:=vals1 r;refine call_list_str (I.ok.hd n) x t (fun o i a c k e f=>?_) d;refine⟨.ref s.heap.objs.size,_,I.laid (t':=i) k (ze _) (show B6 X.prog X.w _ o _ (.lst (signs x))from⟨by simpa[signs]using d,a.toList,c,?_,‹e›⟩),rfl,q _ (I.Bw.fresh (ze _))⟩;refine LM (x:=x) a.toList x.cps.toList ‹f.1› fun j v m=>?_;obtain⟨y,g,w,p⟩:=f.2 j v ‹m›;exact⟨y,g,‹w›,p⟩
theorem Yb:YW X "str.index" (fun x xs H Q=>∃a b i c,x= .str a/\xs=[.str b]/\PySem.Builtin.Str.occurrences a b 0 a.length 1=i::c/\Q (.int (i:Nat)) H):=by intro e s σ H x xs v us Q I f d h;obtain⟨a,b,i,c,rfl,rfl,j,h⟩:=h;obtain⟨t,rfl⟩:=f;cases d with|cons g d=>cases d;obtain⟨u,rfl⟩:=g;exact PySem.SC.index j ⟨.int (i:Nat),H,I.tok _,⟨_,rfl⟩,h⟩
def bestAt(xs:List (List Int)):Nat->Nat|0=>0|k+1=>if HT.lexLt (xs.getD (k+1) []) (xs.getD (bestAt xs k) [])then k+1 else bestAt xs k
section
variable{w:World}{R:Result->Shared->Prop}{I l S:Addr}{its:Array Value}{ts:List Addr}{xs:List (List Int)}
def El(h:Heap)(b:List Addr)(xs:List (List Int)):Prop:=Paired (fun t c=>∃a:Array Value,IsTup h t a/\IntsAre a.toList c) b xs
theorem El.get{h:Heap}:∀{b:List Addr}{xs:List (List Int)},El h b xs->∀{i t},b[i]?=some t->∃a:Array Value,IsTup h t a/\IntsAre a.toList (xs.getD i []) |_,_,.cons r c,0,t,e=>by cases e;exact r|_,_,.cons r c,i+1,t,e=>‹El.get c (i:=i) ‹e››
theorem El.kept{h c:Heap}:∀{a:List Addr}{xs:List (List Int)},El h a xs->(∀b∈a,∀o,h.get? b=some o->c.get? b=some o)->El c a xs|_,_,.nil,_=> .nil|_,_,.cons r e,k=>by obtain⟨d,⟨o,f,q⟩,g⟩:=r;exact .cons ⟨d,⟨o,k _ (by simp) o f,q⟩,g⟩ (El.kept e fun b i=>k b (by simp[i]))
theorem Yd(hh:A.handled=none)(hu:A.in1.units<cLine)(L:l≠I)(n:S≠I)(K:S≠l)(u:∀t∈ts,t≠I/\t≠S)(y:its=(ts.map Value.ref).toArray):∀(k j:Nat)(s:Shared)(t:Addr)(c:Nat),ts.length-(j+1)=k->j+1<=ts.length->s.heap.IsListIter I l (j+1)->s.heap.IsList l its->El s.heap ts xs->ts[bestAt xs j]?=some t->s.heap.get? S=some {cls:= .type "list",dict:=none,data:= .seq #[.ref t,.ref t] c,slots:=#[]}->(∀t V r,ts[bestAt xs (ts.length-1)]?=some t->(∀b o,b≠I->b≠S->s.heap.get? b=some o->V.get? b=some o)->R (.ok (.ret (.ref t))) {s with heap:=V,toks:=r})->codeAny (model prog w) A (.builtin "min.loop" ⟨[.ref I,.none,.ref S],[]⟩) R s:=by
 have Q:(toString "min"++toString ".loop":String)="min.loop":=⋯;have W:=Walks.list (prog:=prog) (w:=w) (A:=A.in1) hh I l L its;have hn:its.size=ts.length:=by rw[y];simp
 intro k;induction k with
 |zero=>intro j s t c hk hj N M U D B E;have z:j+1=ts.length:=∅;refine uG tX ?_;rw[uQ xU _];refine(show wpAny _ A.in1 (seqItems? (.ref S)>>=_) _ _ s from za (vQ B rfl ?_));refine(show wpAny _ A.in1 (tryCatch (pyNext (.ref I)) _>>=_) _ _ s from za (uM (W.done s _ _ (by rw[hn,<-z];exact⟨N,M⟩) fun g r m=>?_)));have d:=m S _ ‹n› B;refine(show wpAny _ A.in1 (updateSeq S (fun Y=>#[])>>=_) _ _ _ from za ?_);exact su d rfl (za (uN (zr (E t _ r (by rw[<-z];exact D) fun b o p h e=>(yT _ _ (zN h)).trans (m b o ‹p› e)))))
 |succ k T=>
  intro j s t c hk hj N M U D B E;have J:j+1<its.size:=∅;refine uG tX ?_;rw[uQ xU _];refine(show wpAny _ A.in1 (seqItems? (.ref S)>>=_) _ _ s from za (vQ B rfl ?_));refine(show wpAny _ A.in1 (tryCatch (pyNext (.ref I)) _>>=_) _ _ s from za (uM (W.item (j+1) s _ _ J ⟨N,M⟩ fun v g r H C m=>?_)));have d:=m S _ ‹n› B;obtain⟨a,x,rfl⟩:∃a,ts[j+1]?=some a/\v= .ref a:=by rw[y]at H;simp only[sJ,z7,zy]at H;obtain⟨a,e,rfl⟩:=H;exact⟨a,e,rfl⟩
  have f:El g ts xs:=U.kept fun b q o e=>m b o ‹(u b q).1› e;obtain⟨X,p2,i2⟩:=f.get x;obtain⟨Z,p1,i1⟩:=f.get D;refine(show wpAny _ A.in1 (tryCatch (holding [.ref a,.ref a] (richCompare .Lt (.ref a) (.ref t)>>=_)) _>>=_) _ _ _ from ?_);refine za (uM (yR (za (HT.Ve (s:={s with heap:=g,toks:=r}) p2 p1 i2 i1 hu (za (yR (yS (za (uN (zr ?_))))))))));cases q:HT.lexLt (xs.getD (j+1) []) (xs.getD (bestAt xs j) [])with|true=>simp only[xj];refine za (su d rfl (za (uN ?_)));rw[Q];have F:∀b o,b≠S->g.get? b=some o->(g.update S (Obj.mapSeq (fun Y=>(#[.ref a,.ref a]:Array Value)))).get? b=some o:=fun b o h e=>(yT _ _ (zN h)).trans e;refine zr ⟨tD xU _,T (j+1) _ a _ ∅ ∅ (C.1.at fun o e=>F _ o (zN n) e) (C.2.at fun o e=>F _ o (zN K) e) (f.kept fun b q o e=>F b o (u b q).2 e) (by simp only[bestAt,q,xj];exact x) (ye _ d rfl) fun t' O i P G=>?_⟩;exact E t' O i P fun b o p h e=>G b o p h (F b o h (m b o ‹p› e)) |false=>simp only[yD,yW];refine za (uN ?_);rw[Q];refine zr ⟨tD xU _,T (j+1) _ t c ∅ ∅ C.1 C.2 f (by simp only[bestAt,q,yD,yW];exact D) d fun t' O i P G=>?_⟩;exact E t' O i P fun b o p h e=>G b o p h (m b o ‹p› e)
theorem YK(G:A.handled=none)(M:A.in1.units<cLine)(r:s.heap.IsList l (ts.map Value.ref).toArray)(I:El s.heap ts xs)(p:ts≠[])(h:∀t K y,ts[bestAt xs (ts.length-1)]?=some t->(∀b o,s.heap.get? b=some o->K.get? b=some o)->Q (.ref t) {s with heap:=K,toks:=y}):wpAny (model prog w) A (call (.builtin "min") [.ref l]) Q E s:=by
 have B:(toString "min"++toString ".loop":String)="min.loop":=⋯;have a:l<s.heap.objs.size:=by obtain⟨Y,q,Y⟩:=r;exact zA q
 have k:∀t∈ts,t<s.heap.objs.size:=fun t c=>by obtain⟨i,e⟩:=yJ c;obtain⟨S,⟨o,N,Y⟩,Y⟩:=I.get e;exact zA N
 refine call_function_tree F.kind_min F.plain_min F.entry_min (F.args_min1 _) (show wpAny _ A.in1 (Builtin.Builtins.bindParams "min" ["key","default"] 0 ⟨[],[]⟩>>=_) _ _ s from za (wpAny_of_eq (show Builtin.Builtins.bindParams "min" ["key","default"] 0 ⟨[],[]⟩=pure [none,none]from rfl) ?_));refine za (zr (za (tO r (za (wu ?_)))));rw[B];have d:(s.heap.push {cls:= .type "list_iterator",data:= .fields #[.ref l,.int 0 0]}).objs.size=s.heap.objs.size+1:=yk ..;have x:∀b o,s.heap.get? b=some o->((s.heap.push {cls:= .type "list_iterator",data:= .fields #[.ref l,.int 0 0]}).push {cls:= .type "list",data:= .seq #[]}).get? b=some o:=fun b o e=>zi _ (zi _ e);have W:=Walks.list (prog:=prog) (w:=w) (A:=A.in1) G s.heap.objs.size l (zV a) (ts.map Value.ref).toArray;have f:0<ts.length:=xF.mpr p;have C:s.heap.objs.size+1≠s.heap.objs.size:=vZ _;have J:((s.heap.push {cls:= .type "list_iterator",data:= .fields #[.ref l,.int 0 0]}).push {cls:= .type "list",data:= .seq #[]}).get? (s.heap.objs.size+1)=some {cls:= .type "list",data:= .seq #[]}:=by rw[<-d];exact zM _ rfl
 rw[d];refine zr ⟨tD xU _,uG tX ?_⟩;rw[uQ xU _];refine(show wpAny _ A.in1 (seqItems? (.ref (s.heap.objs.size+1))>>=_) _ _ _ from za (vQ J rfl ?_));refine(show wpAny _ A.in1 (tryCatch (pyNext (.ref s.heap.objs.size)) _>>=_) _ _ _ from za (uM (W.item 0 _ _ _ ‹f› ⟨⟨_,zi _ (zM _ rfl),rfl,rfl⟩,r.at fun o e=>x l o e⟩ fun v g y D z H=>?_)));obtain⟨t,c,rfl⟩:∃t,ts[0]?=some t/\v= .ref t:=by simp only[sJ,z7,zy]at D;obtain⟨t,e,rfl⟩:=D;exact⟨t,e,rfl⟩
 have m:=H (s.heap.objs.size+1) _ (by simp) J;refine(show wpAny _ A.in1 (updateSeq (s.heap.objs.size+1) (fun Y=>#[.ref t,.ref t])>>=_) _ _ _ from za (su m rfl ?_));rw[B];have u:∀b o,b≠s.heap.objs.size+1->g.get? b=some o->(g.update (s.heap.objs.size+1) (Obj.mapSeq (fun Y=>(#[.ref t,.ref t]:Array Value)))).get? b=some o:=fun b o R e=>(yT _ _ (zN R)).trans e;have j:∀b o,s.heap.get? b=some o->(g.update (s.heap.objs.size+1) (Obj.mapSeq (fun Y=>(#[.ref t,.ref t]:Array Value)))).get? b=some o:=fun b o e=>u b o (zV (yM (zA e))) (H b o ‹zV (zA e)› (x b o e));refine zr ⟨tD xU _,Yd (xs:=xs) (l:=l) G M (zV a) C (xl (yM a)) (fun t c=>⟨zV (k t c),zV (yM (k t c))⟩) rfl _ 0 _ t _ rfl f (z.1.at fun o e=>u _ o (zN C) e) (z.2.at fun o e=>u _ o (zV (yM a)) e) (I.kept fun b T o e=>j b o e) c (ye _ m rfl) fun t' O n P L=>?_⟩;exact h t' O n P fun b o e=>L b o (zV (zA e)) (zV (yM (zA e))) (j b o e)
end
theorem Ob{X:Cx}(D:X.calm=true)(C:X.A.in1.units<cLine):FG X (.builtin "min") (fun v H Q=>∃a b g,v=[.ref a]/\AI X.K H a (b.map V.ref)/\Paired (fun t n=>Em X.K H t (n.map V.int)) b g/\b≠[]/\∀t,b[bestAt g (b.length-1)]?=some t->Q (.ref t) H):=by
 intro k s σ H xs us Q I r h;obtain⟨a,b,g,rfl,j,m,c,q⟩:=h;obtain⟨u,rfl,y⟩:=vals1 r;cases y;obtain⟨f,d,pl,l⟩:=I.list j;have o:f=b.map Value.ref:=by clear j m c q pl l;induction b generalizing f with|nil=>cases d;rfl|cons t b i=>cases d with|cons A z=>cases A;rw[i _ z];rfl
 have E:El s.heap b g:=by clear j c q d pl l o;induction m with|nil=>exact .nil|cons F G i=>obtain⟨w,d,p,Y⟩:=I.tuple F;exact .cons ⟨w.toArray,p,intsAre_of d⟩ i
 subst o;exact YK (I.ok.hd D) C pl.isList E c fun t J x e B=>⟨.ref t,H,I.kept (t':=x) B,rfl,q t e⟩
def dS(d c:TE):TE:=fun σ H Q=>∀p,H p=none->d σ (Av H p (.dT [])) fun x e=>c σ e fun v a=>a p=some (.dT [])/\∃b k,x= .ref b/\a b=some (.tup (k.map kV))/\Q (.ref p) (Av a p (.dT [(k,v)]))
theorem XM{X:Cx}{d:Pos}{k v:Expr}{m l:TE}(F:X.A.units<cLine)(K:PE X k m)(E:PE X v l):PE X (.Dict [some k] [v] d) (dS m l):=by
 intro c s σ H Q I q;have J:=I.Bw.fresh (ze s.heap.objs.size);have V:=I.laid (a:=s.heap.objs.size) (o:= .dT []) (h':=s.heap.push {cls:= .type "dict",data:= .dict #[]}) (t':=s.toks) (fun Y Y q=>zi _ q) (ze _) (cM s.heap I.nS);have r:=zip_pairTrees [some k] [v] X.env d rfl rfl;rw[arm_eval_Dict,r,dictDisplay_pairs (pairTrees [some k] [v] X.env d) (by intro z;cases z) (by show 1<17;decide)];refine za (xb (za ?_));unfold subDict;refine za (sf (za (yR ?_)));rw[zc (by show 1<=15;decide)];refine za (pairTrees_cons_walk (Bq (K c _ σ _ _ V (q _ J)) fun u t ⟨x,Z,j,A,C⟩=>Bq (E c t σ Z _ j C) fun w2 s2 ⟨y,W,i,w,e,b,D,ex,g,B⟩=>pairTrees_nil_walk ?_));subst ex;obtain rfl:u=Value.ref b:=A;refine yR (za ?_);rw[uo];obtain⟨z,L,xs,f,U⟩:=ik i.Bw e;cases f;refine za (za (wpAny_dictSet_heap (hsz:=zx _) F (JT i.Bw g) U fun R h G=>zr ?_));simp only[tR];refine zr (zr (zr (zr ?_)));obtain⟨n,S,T,p,P,O,N,Y,M⟩:=h;refine⟨.ref s.heap.objs.size,_,QK (ob:= .dT [(D,y)]) i (by rw[e];exact True.intro) G ⟨n,p⟩ ⟨?_,L,_,?_,n,S,T,p,P,O,N,M⟩,rfl,B⟩;·show 1<=sizeLine;decide
 ·refine .cons ⟨rfl,?_,w⟩ .nil;show Av W s.heap.objs.size _ b=_;rw[Ac (Ss g e (fun z=>nomatch z))];exact g
theorem Y5{K:Frag}{j:TS}{D:Ends}(b:Nat->St->Hp->Prop)(v:b 0 σ H)(r:∀i σ H,i<=xs.length->b i σ H->Em K H a xs)(o:∀i x σ H T,xs[i]?=some x->b i σ H->H T=none->g (.ref T) σ (Av H T (.tup [.int (i:Nat),x])) fun c h=>j {D with nx:=b (i+1),ct:=b (i+1),bk:=D.nx} c h)(t:∀σ H,b xs.length σ H->D.nx σ H):∃W:Nat->Nat->St->Hp->Prop,(∃m,W 0 m σ H)/\∀i m σ H,W i m σ H->((dw K a).stop i H/\D.nx σ H)\/((dw K a).go i H/\∃N:St->Hp->Prop,(∀d f,N d f->∃k,k<m/\W (i+1) k d f)/\∀x f,(dw K a).Uj i H x f->g x σ f fun c h=>j {D with nx:=N,ct:=N,bk:=D.nx} c h):=by
 exists fun i m σ H=>m=xs.length-i/\i<=xs.length/\b i σ H,⟨xs.length,by simp,zx _,v⟩;rintro i m σ H ⟨rfl,s,p⟩;have q:=r i σ H s p;by_cases hlt:i<xs.length;·refine .inr ⟨⟨xs,xs[i],q,by simp[hlt]⟩,b (i+1),fun d f n=>⟨xs.length-(i+1),∅,rfl,hlt,n⟩,fun x f y=>?_⟩;obtain⟨T,l,rfl,u,rfl,y⟩:=y;exact o i l σ _ T (y xs q) p u
 ·have e:i=xs.length:=∅;subst e;exact .inl ⟨⟨xs,q,ze _⟩,t σ H p⟩
theorem GY{j:TS}{D:Ends}(d:Nat->St->Hp->Prop)(t:d 0 σ H)(n:∀i c σ H T,x.cps[i]?=some c->d i σ H->H T=none->g (.ref T) σ (Av H T (.tup [.int (i:Nat),.str ⟨#[c]⟩])) fun a h=>j {D with nx:=d (i+1),ct:=d (i+1),bk:=D.nx} a h)(o:∀σ H,d x.cps.size σ H->D.nx σ H):∃W:Nat->Nat->St->Hp->Prop,(∃m,W 0 m σ H)/\∀i m σ H,W i m σ H->((dy x).stop i H/\D.nx σ H)\/((dy x).go i H/\∃N:St->Hp->Prop,(∀b f,N b f->∃k,k<m/\W (i+1) k b f)/\∀y f,(dy x).Uj i H y f->g y σ f fun a h=>j {D with nx:=N,ct:=N,bk:=D.nx} a h):=by
 exists fun i m σ H=>m=x.cps.size-i/\i<=x.cps.size/\d i σ H,⟨x.cps.size,by simp,zx _,t⟩;rintro i m σ H ⟨rfl,u,p⟩;by_cases hlt:i<x.cps.size;·refine .inr ⟨hlt,d (i+1),fun b f l=>⟨x.cps.size-(i+1),∅,rfl,hlt,l⟩,fun y f q=>?_⟩;obtain⟨T,c,rfl,s,r,rfl⟩:=q;exact n i c σ _ T r p s
 ·have e:i=x.cps.size:=∅;subst e;exact .inl ⟨ze _,o σ H p⟩
theorem WX{j:TS}{D:Ends}(d:Nat->St->Hp->Prop)(s:d 0 σ H)(n:∀i c σ H,x.cps[i]?=some c->d i σ H->g (.str ⟨#[c]⟩) σ H fun a h=>j {D with nx:=d (i+1),ct:=d (i+1),bk:=D.nx} a h)(o:∀σ H,d x.cps.size σ H->D.nx σ H):∃W:Nat->Nat->St->Hp->Prop,(∃m,W 0 m σ H)/\∀i m σ H,W i m σ H->((iC x).stop i H/\D.nx σ H)\/((iC x).go i H/\∃N:St->Hp->Prop,(∀b f,N b f->∃k,k<m/\W (i+1) k b f)/\∀y f,(iC x).Uj i H y f->g y σ f fun a h=>j {D with nx:=N,ct:=N,bk:=D.nx} a h):=by
 exists fun i m σ H=>m=x.cps.size-i/\i<=x.cps.size/\d i σ H,⟨x.cps.size,by simp,zx _,s⟩;rintro i m σ H ⟨rfl,t,p⟩;by_cases hlt:i<x.cps.size;·refine .inr ⟨hlt,d (i+1),fun b f l=>⟨x.cps.size-(i+1),∅,rfl,hlt,l⟩,fun y f q=>?_⟩;obtain⟨rfl,c,r,rfl⟩:=q;exact n i c σ _ r p
 ·have e:i=x.cps.size:=∅;subst e;exact .inl ⟨ze _,o σ H p⟩
theorem jK{r:TT}{j:List Nat}{u:Hp}{D:Addr}{t:Hp->Prop}(f:Nat->Hp->Prop)(B:f 0 (Av u D (.lst [])))(w:∀i c H,x.cps[i]?=some c->f i H->g (.str ⟨#[c]⟩) (wipe σ j) H fun a o=>wipe a j=wipe σ j/\r a o fun b l=>if b=true then te a l fun y k=>∃d,k D=some (.lst d)/\d.length<sizeLine/\f (i+1) (Av k D (.lst (d++[y])))else f (i+1) l)(z:∀H,f x.cps.size H->t H):∃W:Nat->Nat->Hp->Prop,(∃m,W 0 m (Av u D (.lst [])))/\∀i m H,W i m H->((iC x).stop i H/\t H)\/((iC x).go i H/\∃n:Hp->Prop,(∀h,n h->∃s,s<m/\W (i+1) s h)/\∀y h,(iC x).Uj i H y h->g y (wipe σ j) h fun a o=>wipe a j=wipe σ j/\r a o fun b l=>if b=true then te a l fun y k=>∃d,k D=some (.lst d)/\d.length<sizeLine/\n (Av k D (.lst (d++[y])))else n l):=by
 exists fun i m H=>m=x.cps.size-i/\i<=x.cps.size/\f i H,⟨x.cps.size,by simp,zx _,B⟩;rintro i m H ⟨rfl,C,p⟩;by_cases hlt:i<x.cps.size;·refine .inr ⟨hlt,f (i+1),fun h v=>⟨x.cps.size-(i+1),∅,rfl,hlt,v⟩,fun y h q=>?_⟩;obtain⟨rfl,c,A,rfl⟩:=q;exact w i c _ A p
 ·have e:i=x.cps.size:=∅;subst e;exact .inl ⟨ze _,z H p⟩
theorem cu:m_ X (ax X.K):=by
 intro a s σ H x y v u Q I k g h;obtain⟨p,xs,i,z,rfl,rfl,l,n,q⟩:=h;cases k;obtain⟨t,rfl⟩:=g;obtain⟨d,r,pl,C⟩:=I.list l;obtain⟨j,b,B,E,A,o⟩:=LC n;obtain⟨w,f,c⟩:=r.get B;have m:=r.length;have D:=Gi;have fin:EP X a σ Q w s:=⟨z,H,I,c,q⟩;by_cases h0:0<=i
 ·have e:i.toNat=j:=by rw[si h0 o]at b;exact zt b
  exact wpAny_getItem_list pl.isList h0 ∅ (by rw[e];simpa using f) fin
 ·have e:(i+(d.toArray.size:Int)).toNat=j:=by rw[tP ∅ A]at b;rw[zI,<-m];exact zt b
  exact rW pl.isList ∅ (by rw[zI]<;>lia) ∅ (by rw[e];simpa using f) fin
theorem J_{K:Frag}{j:TS}{D:Ends}{σ:L2.St}(b:Nat->L2.St->Hp->Prop)(v:b 0 σ H)(r:∀i σ H,i<=xs.length->b i σ H->AI K H a xs)(o:∀i x σ H T,xs[i]?=some x->b i σ H->H T=none->g (.ref T) σ (Av H T (.tup [.int (i:Nat),x])) fun c h=>j {D with nx:=b (i+1),ct:=b (i+1),bk:=D.nx} c h)(t:∀σ H,b xs.length σ H->D.nx σ H):∃W:Nat->Nat->L2.St->Hp->Prop,(∃m,W 0 m σ H)/\∀i m σ H,W i m σ H->((iE K a).stop i H/\D.nx σ H)\/((iE K a).go i H/\∃N:L2.St->Hp->Prop,(∀d f,N d f->∃k,k<m/\W (i+1) k d f)/\∀x f,(iE K a).Uj i H x f->g x σ f fun c h=>j {D with nx:=N,ct:=N,bk:=D.nx} c h):=by
 exists fun i m σ H=>m=xs.length-i/\i<=xs.length/\b i σ H,⟨xs.length,by simp,zx _,v⟩;rintro i m σ H ⟨rfl,s,p⟩;have q:=r i σ H s p;by_cases hlt:i<xs.length;·refine .inr ⟨⟨xs,xs[i],q,by simp[hlt]⟩,b (i+1),fun d f n=>⟨xs.length-(i+1),∅,rfl,hlt,n⟩,fun x f y=>?_⟩;obtain⟨T,l,rfl,u,rfl,y⟩:=y;exact o i l σ _ T (y xs q) p u
 ·have e:i=xs.length:=∅;subst e;exact .inl ⟨⟨xs,q,ze _⟩,t σ H p⟩
theorem bO{K:Frag}{r:TT}{j:List Nat}{σ:L2.St}{u:Hp}{D:Addr}{t:Hp->Prop}(f:Nat->Hp->Prop)(F:f 0 (Av u D (.lst [])))(A:∀i H,i<=xs.length->f i H->AI K H a xs)(z:∀i x H T,xs[i]?=some x->f i H->H T=none->g (.ref T) (wipe σ j) (Av H T (.tup [.int (i:Nat),x])) fun c o=>wipe c j=wipe σ j/\r c o fun b l=>if b=true then te c l fun y k=>∃d,k D=some (.lst d)/\d.length<sizeLine/\f (i+1) (Av k D (.lst (d++[y])))else f (i+1) l)(C:∀H,f xs.length H->t H):∃W:Nat->Nat->Hp->Prop,(∃m,W 0 m (Av u D (.lst [])))/\∀i m H,W i m H->((iE K a).stop i H/\t H)\/((iE K a).go i H/\∃n:Hp->Prop,(∀h,n h->∃s,s<m/\W (i+1) s h)/\∀x h,(iE K a).Uj i H x h->g x (wipe σ j) h fun c o=>wipe c j=wipe σ j/\r c o fun b l=>if b=true then te c l fun y k=>∃d,k D=some (.lst d)/\d.length<sizeLine/\n (Av k D (.lst (d++[y])))else n l):=by
 exists fun i m H=>m=xs.length-i/\i<=xs.length/\f i H,⟨xs.length,by simp,zx _,F⟩;rintro i m H ⟨rfl,B,p⟩;have q:=A i H B p;by_cases hlt:i<xs.length;·refine .inr ⟨⟨xs,xs[i],q,by simp[hlt]⟩,f (i+1),fun h w=>⟨xs.length-(i+1),∅,rfl,hlt,w⟩,fun x h y=>?_⟩;obtain⟨T,v,rfl,E,rfl,y⟩:=y;exact z i v _ T (y xs q) p E
 ·have e:i=xs.length:=∅;subst e;exact .inl ⟨⟨xs,q,ze _⟩,C H p⟩
def Ci(H:Hp)(a:Addr)(p:Int×Int):Prop:=H a=some (.tup [.int p.1,.int p.2])
def eY(K:Frag):V->List V->Hp->VK->Prop:=fun x xs H Q=>∃(a t:Addr)(c:List Addr)(b:List (Int×Int))(p:Int×Int)(j:Nat),x=V.ref a/\xs=[V.ref t]/\AI K H a (c.map V.ref)/\Paired (Ci H) c b/\Ci H t p/\b[j]?=some p/\(∀m:Nat,m<j->¬b[m]?=some p)/\Q (.int (j:Nat)) H
theorem Zk{K:Frag}{p:Int×Int}(h:Ci H a p):Dp K H (.ref a) (.tuple [.int p.1,.int p.2]):= .tup (Em.of h) (.cons (.int _) (.cons (.int _) .nil))
theorem dP(p q:Int×Int):PyData.eqv (.tuple [.int p.1,.int p.2]) (.tuple [.int q.1,.int q.2])=decide (p=q):=by obtain⟨a,b⟩:=p;obtain⟨c,d⟩:=q;show((a==c)&&((b==d)&&true))=_;rw[zZ];simp
theorem Pb(U:X.A.units+64<cLine):YW X "list.index" (eY X.K):=by
 intro T s σ H x xs v us Q I rx D h;obtain⟨a,t,d,g,p,j,rfl,rfl,hs,C,ht,Z,L,q⟩:=h;cases rx;cases D with
 |cons ry rt=>
  cases rt;cases ry;obtain⟨c,S,⟨⟨cls,dd,data,sl⟩,n,W,hc,a2,hd⟩,y⟩:=I.list hs;simp only at hc hd;subst hc hd;have E:=S.length;have a1:=zE C;rw[z3]at E y;have f:∀m(w:m<c.length),∃b q,c[m]=Value.ref b/\Ci H b q/\g[m]?=some q:=fun m w=>by
   have o:m<d.length:=∅;obtain⟨u,U,ru⟩:=S.get (i:=m) (x:=V.ref d[m]) (by rw[z7,z4 o];rfl);obtain⟨Y,F⟩:=z8.mp U;have K:∃q,g[m]?=some q/\Ci H d[m] q:=by
    have P:∀{d:List Addr}{g:List (Int×Int)},Paired (Ci H) d g->∀(m:Nat)(b:Addr),d[m]?=some b->∃q,g[m]?=some q/\Ci H b q:=by intro d g C;induction C with|nil=>intro m b e;cases e|cons r rr ih=>intro m b e;cases m with|zero=>cases e;exact⟨_,rfl,r⟩ |succ m=>exact ih m b ‹e›
    exact P C m _ (z4 o)
   obtain⟨q,h1,h2⟩:=K;exact⟨d[m],q,by rw[F];exact ru,h2,h1⟩
  let e:Value->Bool:=fun u=>match u with
  | .ref b=>(match H b with|some (.tup xs)=>decide (xs=[V.int p.1,V.int p.2]) |_=>false)
  |_=>false;have R:∀b q,Ci H b q->e (.ref b)=decide (q=p):=fun b q K=>by show(match H b with|some (.tup xs)=>decide (xs=[V.int p.1,V.int p.2]) |_=>false)=_;rw[show H b=some (.tup [.int q.1,.int q.2])from K];obtain⟨q1,q2⟩:=q;obtain⟨p1,p2⟩:=p;simp
  have A:j<c.length:=by have:=(z8.mp Z).1;lia
  have O:j<c.toArray.size:=‹A›;have a0:=uO;refine tF vV ⟨_,W,rfl⟩ PySem.F.entry_list_index (PySem.F.args_list_index_2 _ _) (SeqAt.list_indexAt a c.toArray n dd sl (.ref t) e j O ∅ ?_ ?_) ⟨W,fun u' J=>?_,?_⟩;·obtain⟨b,q,l,k,B⟩:=f j A;have:c.toArray[j]=Value.ref b:=‹l›;rw[this,R b q k];rw[Z]at B;cases B;exact zj rfl
  ·intro m w N;have M:m<c.length:=‹w›;obtain⟨b,q,l,k,B⟩:=f m M;have:c.toArray[m]=Value.ref b:=‹l›;rw[this,R b q k];exact zo fun z=>L m N (by rw[B,z])
  ·have G:u'∈c:=‹J›;obtain⟨m,w,e0⟩:=w_.mp G;obtain⟨b,q,l,k,B⟩:=f m w;rw[e0]at l;subst l;obtain⟨Y,r1⟩:=Dp.reads I _ _ _ (Zk k) rfl;obtain⟨Y,r2⟩:=Dp.reads I _ _ _ (Zk ht) rfl;rw[R b q k,<-dP];exact SeqAt.eqAt_reads _ _ _ s _ _ _ _ r1 r2 rfl rfl (by
    have d1:(PyData.tuple [.int q.1,.int q.2]).depth<=2:=by show(1+(max 0 (max 0 0)):Nat)<=2;decide
    have:(X.A.in1).units=X.A.units+1:=rfl;rw[this];lia)
  ·exact⟨.int (j:Nat),H,I.tok _,⟨_,rfl⟩,q⟩
def W5(K:Frag):V->List V->Hp->VK->Prop:=fun x xs H Q=>∃(a:Addr)(b:List Int)(k:Int),x=V.ref a/\xs=[V.int k]/\AI K H a (b.map V.int)/\Q (.int (b.count k:Nat)) H
theorem Yc:YW X "list.count" (W5 X.K):=by intro c s σ H x xs v us Q I e b h;obtain⟨a,g,k,rfl,rfl,j,q⟩:=h;cases e;cases b with|cons d rt=>cases rt;obtain⟨t,rfl⟩:=d;obtain⟨i,f,pl,l⟩:=I.list j;exact count_list_ints pl.isList (f.ints) ⟨.int (g.count k:Nat),H,I.tok _,⟨_,rfl⟩,q⟩
end L2
end
variable{x:PySem.Str}{H H':L2.Hp}{f C CA a:PySem.Addr}{fd fdA fdH:PySem.FuncData}{p c n i:Nat}{xs:List L2.V}{b:List Nat}{ns:List Int}
open Lean in
local macro_rules (kind:=Lean.Parser.Command.declaration)|s=>do
 let u:=s[1][2]
 if u[1][0][1].getKind != ``Parser.Term.hole then Macro.throwUnsupported
 let b<-[(`vs,<-`(List L2.V)),(`H,<-`(L2.Hp)),(`Q,<-`(L2.VK)),(`E,<-`(L2.XK))].mapM fun(x,t)=>`(bracketedBinder|($(mkIdent x):ident :$t))
 return s.setArg 1 (s[1].setArg 2 ((u.setArg 0 (u[0].setArgs (u[0].getArgs++b.toArray))).setArg 1 (u[1].setArg 0 (u[1][0].setArg 1 (<-`(Prop))))))
local macro_rules|`(tactic|exists $d)=>`(tactic|(refine⟨_,$d,?_⟩;try dsimp only[L2.Jh,L2.Cx.nJ,L2.k_]))
local macro_rules|`(#v[$x])=>`(L2.nI $x L2.Cd)|`(#v[$x,$a,*])=>do `(L2.nI $x $(<-a.getElems.foldrM (β:=Lean.Term) (fun x r=>`(L2.nI $x $r)) (<-`(L2.Cd))))
local macro_rules|`(%[$a,*|$b])=>do return(<-a.getElems.foldrM (β:=Lean.Term) (fun x r=>`(L2.mv $x $r)) (<-`(L2.Ag $b)))
open HM(AH AZ Aq B B0 BC BD BH BJ BP Bv CH CI CP CY CZ Cn D5 DB DS DW Dj Dy Dz Ef G9 HJ Hi J8 JD JI JJ JQ Jt K4 LB LQ Ln MH ML NB NL Na OO Of PQ Qs Right Rl TV U3 UZ Uk Words Xn cJ dg dv fk flat hX most shl)
namespace He
open PySem PySem.Spec PyProof.Rows L2
open PySem.W (Frag)
def top(i:Nat):Stmt:=PySem.Challenge.pw_hallends_s01_answers.main.body.getD i (.Pass ⟨0,0,0,0⟩)
abbrev FT:Stmt:=A0 (top 28) 0
abbrev Fo:Stmt:=A0 (top 49) 0
abbrev ZO:Stmt:=A0 (top 50) 0
abbrev Qh:Stmt:=A0 (top 50) 1
abbrev Mu:Stmt:=A0 (top 50) 5
abbrev Mw:Stmt:=A0 (top 50) 8
structure du(K:Frag)(C:Addr):Prop where
 cl:Rj K C
 nT:Bl K C "text"
 nP:Bl K C "place"
abbrev Ly:Stmt:=top 51
def known:List Nat:=[10,32,35,46,47]++(List.range 10).map (· +48)++(List.range 26).map (· +65)++(List.range 26).map (· +97)
abbrev Mv:Stmt:=A0 (top 50) 7
abbrev Iw:Stmt:=A0 (top 50) 4
abbrev IB:Stmt:=A0 (top 50) 3
abbrev ZN:Stmt:=A0 (top 50) 2
abbrev J9:Stmt:=A0 (top 50) 6
abbrev Iv:Stmt:=top 52
abbrev Iz:Stmt:=top 53
abbrev JB:Stmt:=top 70
abbrev Qg:Stmt:=top 6
abbrev Lx:Stmt:=top 7
abbrev Qe:Stmt:=top 8
inductive Def(K:Frag)(mg:Str->Option Value)(x:Str)(st:Stmt)(ps:List Str):Prop|mk(f fd:_):En K x x st f fd->Bm K fd ps []->mg x=some (.ref f)->Def K mg x st ps
inductive Met(K:Frag)(C:Addr)(x qual:Str)(st:Stmt)(ps:List Str):Prop|mk(f fd:_):En K x qual st f fd->Bm K fd ps []->N6 K C x f->Met K C x qual st ps
inductive gH(K:Frag)(C:Addr)(qual:Str)(st:Stmt)(ps:List Str):Prop|mk(f fd:_):En K "__init__" qual st f fd->Bm K fd ps []->Mk K C f->gH K C qual st ps
structure nr(K:Frag)(C:Addr):Prop where
 cl:Rj K C
 O_:Bl K C "wide"
 Pa:Bl K C "high"
 Fv:Bl K C "ground"
 GK:Bl K C "beside"
 WG:Bl K C "slides"
 U_:Bl K C "armed"
 hW:Bl K C "four"
 WH:Bl K C "passed"
 hR:Bl K C "seat"
 bA:Bl K C "exits"
 hU:Bl K C "goal"
abbrev Wx:Stmt:=top 26
abbrev af:Stmt:=top 25
abbrev OK:Stmt:=top 24
abbrev M1:Stmt:=top 23
abbrev RG:Stmt:=top 22
abbrev ZR:Stmt:=top 21
abbrev RF:Stmt:=top 20
abbrev ag:Stmt:=top 19
abbrev OG:Stmt:=A0 (top 5) 1
abbrev OH:Stmt:=A0 (top 5) 2
abbrev Wt:Stmt:=A0 (top 5) 3
abbrev RP:Stmt:=top 14
abbrev ae:Stmt:=top 18
abbrev g_:Stmt:=top 17
abbrev UD:Stmt:=top 16
abbrev Wq:Stmt:=top 15
def BQ(K:Frag)(a:Addr)(xs:List V):Prop:=∃(o:Obj)(b:Array Value)(n:Nat),K.lookup a=some o/\o.cls= .type "tuple"/\o.data= .seq b n/\b.size<=sizeLine/\AF xs b.toList
inductive iy(K:Frag)(mg:Str->Option Value):Prop|mk(aS s0 s1:_):mg "SIDES"=some (.ref aS)->BQ K aS [.ref s0,.ref s1]->BQ K s0 [.str "h"]->BQ K s1 [.str "m",.str "K"]->iy K mg
inductive kP(K:Frag)(mg:Str->Option Value):Prop|mk(f0 fd0 C0:_):En K "__init__" "Refusal.__init__" FT f0 fd0->Bm K fd0 ["self","told"] []->mg "Exception"=none->mg "Refusal"=some (.ref C0)->gK K C0 "__init__" f0->kP K mg
inductive Rc(K:Frag)(mg:Str->Option Value)(C:Addr)(name qual:Str)(st:Stmt)(ps:List Str):Prop|mk(f fd:_):En K "__init__" qual st f fd->Bm K fd ps []->PK K C f->VQ K C "told"->mg name=some (.ref C)->Rc K mg C name qual st ps
abbrev K1:Stmt:=A0 (top 29) 0
abbrev EK:Stmt:=A0 (top 30) 0
abbrev FR:Stmt:=A0 (top 31) 0
abbrev Hn:Stmt:=A0 (top 32) 0
abbrev OA:Stmt:=A0 (top 35) 0
abbrev Hm:Stmt:=A0 (top 33) 0
abbrev FQ:Stmt:=A0 (top 34) 0
abbrev ZP:Stmt:=top 71
abbrev OF:Stmt:=top 74
abbrev RK:Stmt:=top 72
abbrev Wp:Stmt:=top 73
abbrev RI:Stmt:=top 76
abbrev ZQ:Stmt:=top 9
abbrev JC:Stmt:=A0 (top 5) 0
inductive iv(K:Frag)(mg:Str->Option Value):Prop|mk(aT p0 p1 p2 p3:_):mg "STEPS"=some (.ref aT)->BQ K aT [.ref p0,.ref p1,.ref p2,.ref p3]->BQ K p0 [.int 0,.int 1]->BQ K p1 [.int 1,.int 0]->BQ K p2 [.int 0,.int (-1)]->BQ K p3 [.int (-1),.int 0]->iv K mg
abbrev ZV:Stmt:=top 75
abbrev Wu:Stmt:=A0 (top 40) 1
structure pO(K:Frag)(C:Addr):Prop where
 cl:Rj K C
 nP:Bl K C "positions"
 nN:Bl K C "numbers"
 nF:Bl K C "follows"
 nW:Bl K C "worth"
abbrev Wn:Stmt:=top 45
abbrev JA:Stmt:=top 44
abbrev Lw:Stmt:=top 43
abbrev ZS:Stmt:=top 77
abbrev RL:Stmt:=top 69
def dJ:List (Str×Str×List Str):=[("first","first ",["hunters","king"]),("slides","\nking ",["steps","slides"]),("armed"," ",["bare","armed"]),("four"," ",["two","four"]),("passed","\nseat ",["barred","passed"]),("seat"," ",["quiet","hunters","men","all"]),("exits","\nexits ",["quiet","hunters","men","all"]),("goal","\ngoal ",["edge","exits"]),("thrice","\nthrice ",["drawn","hunters","king"])]
inductive Rg(K:Frag)(mg:Str->Option Value):Prop|mk(aC:Addr)(ts us:List Addr):mg "CHOICES"=some (.ref aC)->BQ K aC (ts.map V.ref)->ts.length=9->us.length=9->(∀(i:Nat)(t u:Addr)(y:Str×Str×List Str),ts[i]?=some t->us[i]?=some u->dJ[i]?=some y->BQ K t [.str y.1,.str y.2.1,.ref u]/\BQ K u (y.2.2.map V.str))->Rg K mg
inductive iw(K:Frag)(mg:Str->Option Value):Prop|mk(g1 g2:_):mg "GROUND_SIGNS"=some (.ref g1)->mg "START_SIGNS"=some (.ref g2)->BQ K g1 (([46,83,88,35]:List Nat).map fun c=>V.str ⟨#[c]⟩)/\BQ K g2 (([46,104,109,75]:List Nat).map fun c=>V.str ⟨#[c]⟩)->iw K mg
abbrev Mx:Stmt:=top 68
abbrev My:Stmt:=top 57
abbrev gW:Stmt:=top 59
abbrev aa:Stmt:=top 58
abbrev RJ:Stmt:=top 62
abbrev RH:Stmt:=top 61
abbrev Ws:Stmt:=top 60
inductive iu(K:Frag)(mg:Str->Option Value):Prop|mk(aT:_):mg "TURNS"=some (.ref aT)->BQ K aT [.str "h",.str "k"]->iu K mg
abbrev GF:Stmt:=top 56
abbrev ZY:Stmt:=A0 (top 80) 0
abbrev ZX:Stmt:=A0 (top 80) 1
abbrev Ww:Stmt:=A0 (top 80) 2
abbrev gZ:Stmt:=A0 (top 80) 3
abbrev ZW:Stmt:=A0 (top 80) 4
abbrev RS:Stmt:=top 82
structure vL(K:Frag)(C:Addr):Prop where
 cl:Rj K C
 nH:Bl K C "handed"
 nA:Bl K C "at"
abbrev RO:Stmt:=A0 (top 40) 0
abbrev ZZ:Stmt:=top 41
abbrev Mz:Stmt:=top 42
abbrev ab:Stmt:=A0 (top 40) 2
abbrev UC:Stmt:=A0 (top 40) 3
abbrev Wo:Stmt:=A0 (top 40) 4
abbrev Z_:Stmt:=A0 (top 81) 0
abbrev OE:Stmt:=A0 (top 81) 1
abbrev RN:Stmt:=A0 (top 81) 2
abbrev RT:Stmt:=A0 (top 81) 3
abbrev gX:Stmt:=A0 (top 81) 4
abbrev OI:Stmt:=A0 (top 81) 5
abbrev OC:Stmt:=A0 (top 81) 6
abbrev K2:Stmt:=A0 (top 81) 7
abbrev Ms:Stmt:=A0 (top 81) 8
abbrev OD:Stmt:=A0 (top 81) 9
abbrev OB:Stmt:=A0 (top 81) 10
abbrev Mt:Stmt:=A0 (top 81) 11
abbrev ZT:Stmt:=A0 (top 81) 12
structure wh(K:Frag)(C:Addr):Prop where
 cl:Rj K C
 nH:Bl K C "hall"
 nE:Bl K C "ending"
structure dH(K:Frag)(C0 C:Addr):Prop where
 at_:VQ K C "told"
 sub:subIn K (.ref C) (.ref C0)=some true
abbrev EL:Stmt:=top 83
abbrev K3:Stmt:=top 84
abbrev OJ:Stmt:=top 85
inductive EI(K:Frag):_|mk(la:Addr)(ns:List Int):vs=[.ref la]->AI K H la (ns.map V.int)->ns.length<=30000->PyWqacdc.answers_asked ns=true->(∀H' l,H' l=some (.lst ((PyWqacdc.answers ns).map V.int))->Q (.ref l) H')->EI K vs H Q E
structure pS(K:Frag)(mg:Str->Option Value)(CH CR CF CE CD CA C0 XW XP XN XO XL XR XT:Addr):Prop where
 Tp:mg "Reader"=some (.ref CR)
 kb:mg "Hall"=some (.ref CH)
 ke:mg "Feed"=some (.ref CF)
 cv:mg "Ending"=some (.ref CE)
 kf:mg "Desk"=some (.ref CD)
 fJ:mg "Astray"=some (.ref CA)
 qS:mg "Refusal"=some (.ref C0)
 Oa:Def K mg "answer_call" K3 ["desk","feed"]
 HY:Def K mg "answer_or_refuse" OJ ["desk","feed"]
 Ll:Def K mg "begins_number" Ly ["digits","least","greatest"]
 FD:Def K mg "cell_in_order" Lx ["order","wide","high"]
 N_:Def K mg "cells_moved" ZR ["position","move"]
 V9:Def K mg "codes_of" Iz ["text"]
 YI:Def K mg "counted" RS ["row"]
 YH:Def K mg "decided" RP ["hall","position"]
 QO:Def K mg "ends_along" ae ["hall","cells","begin","direction"]
 TN:Def K mg "ends_from" g_ ["hall","cells","begin"]
 cR:Def K mg "enmity" Wx ["hall","cells","cell"]
 NZ:Def K mg "goal_faults" ZV ["said"]
 Lk:Def K mg "ground_faults" RK ["said"]
 V8:Def K mg "is_taken" M1 ["hall","cells","cell","direction","mover"]
 YF:Def K mg "line_of" Ws ["hall","position"]
 NY:Def K mg "longest_for" Mz ["worth","who"]
 TM:Def K mg "may_start" OF ["piece","sign"]
 Ki:Def K mg "missing_faults" ZS ["said","length"]
 V7:Def K mg "moves_of" UD ["hall","position"]
 QN:Def K mg "neighbours" ZQ ["cell","wide","high"]
 NX:Def K mg "number_text" RJ ["empty"]
 YE:Def K mg "on_edge" Qg ["x","y","wide","high"]
 YD:Def K mg "over_by" Wq ["hall","position"]
 Lj:Def K mg "place_in_rows" ZP ["first","order","wide"]
 Kh:Def K mg "position_after" ag ["hall","position","move"]
 QM:Def K mg "read_board" aa ["reader","wide","high"]
 Nw:Def K mg "read_grammar" RL ["reader"]
 TK:Def K mg "read_line" GF ["hall","line"]
 TJ:Def K mg "read_rows" JB ["reader","signs","wide","high"]
 QL:Def K mg "read_rules" Mx ["text"]
 TC:Def K mg "read_some" gW ["reader","left"]
 HX:Def K mg "refuse_misplaced" My ["hall","cells","places"]
 HW:Def K mg "reversed_follows" JA ["follows"]
 V6:Def K mg "row_text" RH ["cells"]
 TB:Def K mg "spread" Qe ["written","wide","high","outside"]
 E_:Def K mg "stands_against_hunter" OK ["hall","cells","cell"]
 G1:Def K mg "stands_against_man" af ["hall","cells","cell"]
 Nv:Def K mg "start_faults" Wp ["said"]
 Kg:Def K mg "starts_on_edge" RI ["said"]
 NW:Def K mg "table_entry" ZZ ["value"]
 V5:Def K mg "taken_at" RG ["hall","cells","end"]
 V4:Def K mg "taken_by" RF ["hall","position","move"]
 YB:Def K mg "text_of" Iv ["codes"]
 T9:Def K mg "values_of" Lw ["hall","positions","follows"]
 cQ:Def K mg "winner" Wn ["hall","position"]
 Ht:Met K CR "ahead" "Reader.ahead" Qh ["self"]
 Qv:Met K CR "take" "Reader.take" ZN ["self","word"]
 Ge:Met K CR "choose" "Reader.choose" IB ["self","words"]
 FI:Met K CR "shared_length" "Reader.shared_length" Iw ["self","word"]
 Hb:Met K CR "take_one_of" "Reader.take_one_of" Mu ["self","signs"]
 IT:Met K CR "take_name" "Reader.take_name" J9 ["self","longest"]
 Hc:Met K CR "take_number" "Reader.take_number" Mv ["self","least","greatest"]
 JM:Met K CR "take_end" "Reader.take_end" Mw ["self"]
 K_:Met K CH "may_stand" "Hall.may_stand" OG ["self","piece","cell"]
 La:Met K CH "may_cross" "Hall.may_cross" OH ["self","piece","cell"]
 NM:Met K CH "is_goal" "Hall.is_goal" Wt ["self","cell"]
 MS:Met K CF "has_more" "Feed.has_more" ZX ["self"]
 JN:Met K CF "take_whole" "Feed.take_whole" Ww ["self"]
 MR:Met K CF "take_row" "Feed.take_row" gZ ["self"]
 Lb:Met K CF "take_text" "Feed.take_text" ZW ["self"]
 MT:Met K CE "follow" "Ending.follow" Wu ["self","hall","position","most"]
 Hg:Met K CE "best_follow" "Ending.best_follow" ab ["self","number"]
 NN:Met K CE "table" "Ending.table" UC ["self"]
 Qw:Met K CE "sums" "Ending.sums" Wo ["self"]
 Lf:Met K CD "set_rules" "Desk.set_rules" OE ["self","text"]
 MU:Met K CD "find_all" "Desk.find_all" RN ["self","most","line"]
 Gf:Met K CD "all_that_comes" "Desk.all_that_comes" RT ["self","most","line"]
 Vd:Met K CD "held" "Desk.held" gX ["self"]
 Lg:Met K CD "held_with" "Desk.held_with" OI ["self","number"]
 Ld:Met K CD "tell_line" "Desk.tell_line" OC ["self","number"]
 IU:Met K CD "tell_number" "Desk.tell_number" K2 ["self","line"]
 JO:Met K CD "tell_value" "Desk.tell_value" Ms ["self","number"]
 Le:Met K CD "tell_best" "Desk.tell_best" OD ["self","number"]
 Lc:Met K CD "tell_sums" "Desk.tell_sums" OB ["self"]
 JP:Met K CD "tell_table" "Desk.tell_table" Mt ["self"]
 SD:Met K CD "judge" "Desk.judge" ZT ["self","most","line","table"]
 bV:gH K CR "Reader.__init__" ZO ["self","text"]
 jT:gH K CH "Hall.__init__" JC ["self","said"]
 jU:gH K CF "Feed.__init__" ZY ["self","numbers"]
 bW:gH K CE "Ending.__init__" RO ["self","hall","first","most"]
 jV:gH K CD "Desk.__init__" Z_ ["self"]
 Rk:Rc K mg XW "WrongMost" "WrongMost.__init__" K1 ["self"]
 Sa:dH K C0 XW
 Jw:Rc K mg XP "NoSuchPosition" "NoSuchPosition.__init__" EK ["self"]
 EM:dH K C0 XP
 LJ:Rc K mg XN "NothingThere" "NothingThere.__init__" FR ["self"]
 FU:dH K C0 XN
 ND:Rc K mg XO "AlreadyOver" "AlreadyOver.__init__" Hn ["self"]
 NK:dH K C0 XO
 NC:Rc K mg XL "LineAtFault" "LineAtFault.__init__" Hm ["self","kind","place"]
 Ho:dH K C0 XL
 LI:Rc K mg XR "RulesAtFault" "RulesAtFault.__init__" FQ ["self","kind","place"]
 M8:dH K C0 XR
 Xo:Rc K mg XT "TooMany" "TooMany.__init__" OA ["self"]
 XG:dH K C0 XT
 ref:kP K mg
 qR:D7 K C0=true
 ast:∃fA fdA,En K "__init__" "Astray.__init__" Fo fA fdA/\Bm K fdA ["self","place"] []/\PK K CA fA
 pz:VQ K CA "place"
 lH:subIn K (.ref CA) (.ref CA)=some true
 hc:nr K CH
 rt:du K CR
 fc:vL K CF
 ec:pO K CE
 dc:wh K CD
 Dc:∃t,mg "STRIDE"=some (.int 13 t)
 QU:∃t,mg "CELLS"=some (.int 169 t)
 Fd:∃t,mg "NOWHERE"=some (.int (-1) t)
 Jk:∃t,mg "AGAINST_HUNTERS"=some (.int 1 t)
 Oc:∃t,mg "AGAINST_MEN"=some (.int 2 t)
 Km:∃t,mg "HUNTERS"=some (.int 0 t)
 Fz:∃t,mg "KINGS_SIDE"=some (.int 1 t)
 Fe:∃t,mg "NOBODY"=some (.int 2 t)
 Lm:∃t,mg "GREATEST_MOST"=some (.int 200 t)
 D6:mg "len"=none
 GG:mg "range"=none
 BF:mg "enumerate"=none
 bz:mg "max"=none
 m4:mg "min"=none
 hJ:mg "ord"=none
 m5:mg "int"=none
 m3:mg "str"=none
 jF:mg "list"=none
 Su:mg "sorted"=none
 m6:mg "all"=none
 Sv:mg "Exception"=none
 known:∃x t,mg "KNOWN"=some (.str x t)/\x.cps.toList=known
 unknown:∃x t,mg "UNKNOWN"=some (.str x t)/\x=⟨#[63]⟩
 AO:iy K mg
 steps:iv K mg
 turns:iu K mg
 signs:iw K mg
 gy:Rg K mg
structure Ev where
 P:Program
 w:World
 K:Frag
 mg:Str->Option Value
 base:Heap
 aH:Addr
 aR:Addr
 aF:Addr
 aE:Addr
 aD:Addr
 aA:Addr
 aZ:Addr
 aW:Addr
 aP:Addr
 aN:Addr
 aO:Addr
 aL:Addr
 aS:Addr
 aT:Addr
def Sx(Y:Ev):Prop:=pS Y.K Y.mg Y.aH Y.aR Y.aF Y.aE Y.aD Y.aA Y.aZ Y.aW Y.aP Y.aN Y.aO Y.aL Y.aS Y.aT->∀{f fd},En Y.K "answers" "answers" EL f fd->D9 Y.P Y.w Y.K Y.mg Y.base PM 13 f fd ["calls"] (EI Y.K)
def pm:Params:={strHash:=fun Y=>0,shareClass:=fun Y=>0,mergeTok:=id,idOf:=fun Y=>0,idOfShared:=fun Y Y=>0,followText:=fun Y=>false,idOfImm:=fun Y=>0}
theorem mV:Nonempty Ev:=⟨⟨PySem.Challenge.pw_hallends_s01_answers,⟨fun Y Y=>0,pm⟩,[],fun Y=>none,default,0,0,0,0,0,0,0,0,0,0,0,0,0,0⟩⟩
def Y:Ev:=@Classical.epsilon _ mV fun Y=>¬Sx Y
def P:Program:=Y.P
def w:World:=Y.w
def K:Frag:=Y.K
def mg:Str->Option Value:=Y.mg
def base:Heap:=Y.base
def aH:Addr:=Y.aH
def aR:Addr:=Y.aR
def aF:Addr:=Y.aF
def aE:Addr:=Y.aE
def aD:Addr:=Y.aD
def aA:Addr:=Y.aA
def aZ:Addr:=Y.aZ
def aW:Addr:=Y.aW
def aP:Addr:=Y.aP
def aN:Addr:=Y.aN
def aO:Addr:=Y.aO
def aL:Addr:=Y.aL
def aS:Addr:=Y.aS
def aT:Addr:=Y.aT
abbrev AY:Prop:=pS K mg aH aR aF aE aD aA aZ aW aP aN aO aL aS aT
theorem lu(h:Sx Y)(y:Ev):Sx y:=vp fun z=>@sH _ (fun Y=>¬Sx Y) ⟨y,z⟩ h
def tok(x:Str)(n:Int):Tok:=@Classical.epsilon _ ⟨default⟩ fun t=>mg x=some (.int n t)
theorem mY(Z:AY):D7 K aA=true:=by obtain⟨Y,Y,Y,Y,M⟩:=Z.ast;exact M.makes
theorem C2{n:Int}(h:∃t,mg x=some (.int n t)):mg x=some (.int n (tok x n)):=sH h
abbrev Vv(k:Nat)(f:Addr)(fd:FuncData)(b:List Str)(a:Sp):Prop:=D9 P w K mg base PM k f fd b a
abbrev dF(k:Nat)(f:Addr)(fd:FuncData)(b:List Str)(a:Sp):Prop:=D9 P w K mg base (YY true P w) k f fd b a
abbrev WZ(k:Nat)(f:Addr)(fd:FuncData)(b:List Str)(a:Sp):Prop:=FE P w K mg base PM k f fd b a
theorem Js:1<=sizeLine:=⋯
theorem K0:2<=sizeLine:=⋯
theorem kX:3<=sizeLine:=⋯
theorem Af{l:Addr}{o:HO}(h:H l=none):Ap H (Av H l o):=fun b a e=>by rw[Ac (Ab e h)];exact e
theorem Bu{l:Addr}{o:HO}(s:Ap H H')(h:H l=none):Ap H (Av H' l o):=fun b a e=>by rw[Ac (Ab e h)];exact s _ _ e
inductive A3(a b c:Prop):Prop|mk:a->b->c->A3 a b c
inductive A4(a b c d:Prop):Prop|mk:a->b->c->d->A4 a b c d
inductive A5(a b c d e:Prop):Prop|mk:a->b->c->d->e->A5 a b c d e
inductive A6(a b c d e f:Prop):Prop|mk:a->b->c->d->e->f->A6 a b c d e f
inductive A7(a b c d e f g:Prop):Prop|mk:a->b->c->d->e->f->g->A7 a b c d e f g
inductive E2{A B:Type}(p:A->B->Prop):Prop|mk(a:A)(b:B):p a b->E2 p
inductive E3{A B C:Type}(p:A->B->C->Prop):Prop|mk(a:A)(b:B)(c:C):p a b c->E3 p
inductive E4{A B C D:Type}(p:A->B->C->D->Prop):Prop|mk(a:A)(b:B)(c:C)(d:D):p a b c d->E4 p
inductive E5{A B C D E:Type}(p:A->B->C->D->E->Prop):Prop|mk(a:A)(b:B)(c:C)(d:D)(e:E):p a b c d e->E5 p
def qA(K:Frag)(c:Str)(a:Addr)(v:V)(H:Hp)(Q:VK):Prop:=∃C f,PK K C f/\VQ K C c/\H a=some (XO a C none)/\∀H' d,H' a=some (XO a C (some d))->H' d=some (.xd [(c,v)])->H d=none->d≠a->(∀b o,H b=some o->b≠a->H' b=some o)->Q .Bz H'
inductive Co(K:Frag):_|mk(a v:_):vs=[.ref a,v]->qA K "told" a v H Q->Co K vs H Q E
inductive C3(K:Frag):_|mk(a v:_):vs=[.ref a,v]->qA K "place" a v H Q->C3 K vs H Q E
theorem lQ:Ah ["self","told"] ["self","told"] (Ad FT):={}
theorem CC(F:En K "__init__" "Refusal.__init__" FT f fd)(l:mg "Exception"=none):WZ 1 f fd ["self","told"] (Co K):=by refine F.fq lQ fun H Q E n h=>?_;obtain⟨a,v,rfl,C,g,M,T,i,k⟩:=h;exists%[Sb rfl l (pv 0) |W9 (pv 0) (pv 1) rfl];refine⟨_,rfl,a,C,g,none,rfl,M,i,_,rfl,_,rfl,a,C,rfl,i,T,fun m d c=>?_⟩;refine k _ m Aa (by rw[Ac c,Aa]) d c fun b o e j=>?_;rw[Ac j,Ac (Ab e d)];exact e
inductive Ls(K:Frag)(ns:List Int):_|mk(a:_):vs=[.ref a]->(∃C f,PK K C f/\VQ K C "told"/\H a=some (XO a C none)/\∀H' dx l,H' a=some (XO a C (some dx))->H' dx=some (.xd [("told",.ref l)])->H' l=some (.lst (ns.map V.int))->H dx=none->H l=none->dx≠a->l≠a->(∀b o,H b=some o->b≠a->H' b=some o)->Q .Bz H')->Ls K ns vs H Q E
def rf(x:Str)(p:Nat):List (Str×V):=[("text",.str x),("place",.int p)]
theorem IC(x:Str)(p:Nat):(rf x p).lookup ("text":Str)=some (.str x):=by unfold rf;rw[xW]
theorem Bp(x:Str)(p:Nat):(rf x p).lookup ("place":Str)=some (.int p):=by unfold rf;rw[yp,show(("place":Str)==("text":Str))=false by decide+kernel,xW]
theorem C4{m:Str}(x:Str)(p:Nat)(b:¬m="text":=by decide+kernel)(a:¬m="place":=by decide+kernel):(rf x p).lookup m=none:=by unfold rf;rw[yp,zL.mpr b,yp,zL.mpr a];rfl
theorem UI(x:Str)(p q:Nat):Bx "place" (.int q) (rf x p)=rf x q:=by show(if("text":Str)="place"then _ else(("text":Str),V.str x)::(if("place":Str)="place"then[(("place":Str),V.int q)]else _))=_;rw[zb ∎,zc rfl];rfl
def Cw(C:Addr)(H:Hp)(a:Addr)(x:Str)(p:Nat):Prop:=∃b,H a=some (.ins C b (rf x p))
def sg(x:Str)(p:Nat):Str:=DO x (some (p:Int)) (some ((p:Int)+1))
def DA(a:Addr)(H H':Hp):Prop:=∀b o,H b=some o->b≠a->H' b=some o
inductive G8(C:Addr):_|mk(a x p:_):vs=[.ref a]->Cw C H a x p->x.length<=sizeLine->Q (.str (sg x p)) H->G8 C vs H Q E
def gM(CA:Addr)(p:Nat)(H:Hp)(E:XK):Prop:=∀H' a,H' a=some (.xd [("place",.int p)])->Ap H H'->E (.ref CA) (some a) H'
inductive DQ(K:Frag)(C CA:Addr):_|mk(a g x p:_)(ss:List Str):vs=[.ref a,.ref g]->Cw C H a x p->x.length<=sizeLine->Em K H g (ss.map V.str)->(if sg x p∈ss then∀H',Cw C H' a x (p+1)->DA a H H'->Q (.str (sg x p)) H' else gM CA p H E)->DQ K C CA vs H Q E
inductive G7(C CA:Addr):_|mk(a x p:_):vs=[.ref a]->Cw C H a x p->x.length<=sizeLine->(if p<x.length then gM CA p H E else Q .Bz H)->G7 C CA vs H Q E
theorem me:Ah ["self","place"] ["self","place"] (Ad Fo):={}
theorem EV(F:En K "__init__" "Astray.__init__" Fo f fd)(l:mg "Exception"=none):WZ 1 f fd ["self","place"] (C3 K):=by refine F.fq me fun H Q E n h=>?_;obtain⟨a,v,rfl,C,g,M,T,i,k⟩:=h;exists%[Sb rfl l (pv 0) |W9 (pv 0) (pv 1) rfl];refine⟨_,rfl,a,C,g,none,rfl,M,i,_,rfl,_,rfl,a,C,rfl,i,T,fun m d c=>?_⟩;refine k _ m Aa (by rw[Ac c,Aa]) d c fun b o e j=>?_;rw[Ac j,Ac (Ab e d)];exact e
theorem eK:Ah ["self"] ["self"] (Ad Qh):={}
theorem IL(F:En K "ahead" "Reader.ahead" Qh f fd)(T:du K C):Vv 1 f fd ["self"] (G8 C):=by refine F.ok eK fun H Q E e h=>?_;obtain⟨a,x,p,rfl,⟨c,b⟩,d,k⟩:=h;exists Ag (Aj (D3 HH (Al (pv 0)) (CW (Al (pv 0))) (CW (A9 Ce (Al (pv 0)) Ae))));exact⟨_,rfl,a,C,c,_,_,rfl,b,T.cl,T.nT,IC x p,_,rfl,a,C,c,_,_,rfl,b,T.cl,T.nP,Bp x p,p,rfl,_,rfl,a,C,c,_,_,rfl,b,T.cl,T.nP,Bp x p,_,_,rfl,rfl,_,rfl,x,rfl,d,k⟩
theorem Ff{f:Addr}(M:PK K CA f)(T:VQ K CA "place"){E:XK}(h:gM CA p H E):∀a,H a=none->C3 K [.ref a,.int p] (Av H a (XO a CA none)) (fun v i=>v= .Bz/\∃d,i a=some (XO a CA d)/\E (.ref CA) d (Li i a)) E0:=fun a j=>⟨a,.int p,rfl,CA,f,M,T,Aa,fun H' g n m q k l=>⟨rfl,some g,n,h (Li H' a) g (by rw[BX k];exact m) fun b o e=>by have c:b≠a:=Ab e j;rw[BX c];exact l b o (by rw[Ac c];exact e) c⟩⟩
structure VJ(K:Frag)(mg:Str->Option Value)(C CA fA:Addr)(fdA:FuncData)(fH:Addr)(fdH:FuncData):Prop where
 t:du K C
 dC:PK K CA fA
 at_:VQ K CA "place"
 fJ:mg "Astray"=some (.ref CA)
 mz:mg "Exception"=none
 ln:mg "len"=none
 fa:En K "__init__" "Astray.__init__" Fo fA fdA
 ba:Bm K fdA ["self","place"] []
 fh:En K "ahead" "Reader.ahead" Qh fH fdH
 bh:Bm K fdH ["self"] []
 mh:N6 K C "ahead" fH
theorem gU:Ah ["self","signs","sign"] ["self","signs"] (Ad Mu):={}
theorem SN(x:Str):∀a:List Str,NA (.str x) (a.map V.str)=decide (x∈a)
|[]=>rfl
|y::a=>by
 show((y==x) ||NA (.str x) (a.map V.str))=_;rw[SN x a];by_cases h:y=x;·subst h;simp
 ·have b:¬x=y:=fun q=>h q.symm;simp[h,b]
theorem Y6(a:List Str):(a.map V.str).all Hy=true:=by rw[yq];intro v b;obtain⟨x,Y,rfl⟩:=zk.mp b;rfl
theorem US{n m:Addr}(F:En K "take_one_of" "Reader.take_one_of" Mu f fd)(R:VJ K mg C CA n fdA m fdH):dF 3 f fd ["self","signs"] (DQ K C CA):=by
 have w:WZ 1 n fdA ["self","place"] (C3 K):=EV R.fa R.mz;have v:Vv 1 m fdH ["self"] (G8 C):=IL R.fh R.t;refine F.Ju gU fun H Q E l h r=>?_;obtain⟨a,g,x,p,j,rfl,⟨c,d⟩,q,s,k⟩:=h;exists%[An (i:=2) gU.nd (ES (pv 0) R.t.cl R.mh v (l.mono ⋯) R.bh .nil Ar),AK (Ao Qp (pv 2) (pv 1) #v[]) (Ag (EN R.dC w l.h rfl R.fJ R.ba rfl r (#v[Al (pv 0)]))) Au,DR (pv 0) Ae JV|Aj (pv 2)];exists _,rfl,a,c,_,rfl,d,C4 _ _,a,x,p,rfl,⟨c,d⟩,q,_,rfl,_,rfl,g,_,rfl,.inr s,rfl,Y6 j,_,rfl;rw[zc rfl,SN];by_cases hm:sg x p∈j;·rw[zc hm]at k;rw[zj hm];refine Vh ⟨_,rfl,a,C,c,_,_,rfl,d,R.t.cl,R.t.nP,Bp x p,p,1,rfl,rfl,c,_,d,(by show 2<1000;decide),_,rfl,?_⟩;have e:Bx "place" (V.int ((p:Int)+1)) (rf x p)=rf x (p+1):=UI x p (p+1);exact k _ ⟨c,by rw[e];exact Aa⟩ fun b o u t=>by rw[Ac t];exact u
 ·rw[zb hm]at k;rw[zo hm];exact Yk ⟨_,rfl,a,C,c,_,_,rfl,d,R.t.cl,R.t.nP,Bp x p,Js,Ff R.dC R.at_ k⟩
theorem lZ:Ah ["self"] ["self"] (Ad Mw):={}
theorem UU{d j:Addr}(F:En K "take_end" "Reader.take_end" Mw f fd)(R:VJ K mg C CA d fdA j fdH):dF 3 f fd ["self"] (G7 C CA):=by
 have l:WZ 1 d fdA ["self","place"] (C3 K):=EV R.fa R.mz;refine F.Ju lZ fun H Q E i h g=>?_;obtain⟨a,x,p,rfl,⟨c,b⟩,e,k⟩:=h;exists Ag (AK (Ao FA (Al (pv 0)) (AN DP R.ln y8 (#v[Al (pv 0)]))) (Ag (EN R.dC l i.h rfl R.fJ R.ba rfl g (#v[Al (pv 0)]))) Au);exists _,rfl,a,C,c,_,_,rfl,b,R.t.cl,R.t.nP,Bp x p,_,rfl,a,C,c,_,_,rfl,b,R.t.cl,R.t.nT,IC x p,x,rfl,e,_,_,rfl,rfl,_,rfl;by_cases hp:p<x.length;·rw[zc hp]at k;rw[zj (show(p:Int)<(x.length:Int) by lia)];exact Yk ⟨_,rfl,a,C,c,_,_,rfl,b,R.t.cl,R.t.nP,Bp x p,Js,Ff R.dC R.at_ k⟩
 ·rw[zb hp]at k;rw[zo (show¬(p:Int)<(x.length:Int) by lia)];exact Vh k
theorem jy(k:Nat)(h:5<=k):60000<10^k:=by have:=sV (show 0<10 by decide) h;have e:(10:Nat)^5=100000:=⋯;lia
theorem Uc{b a d k:Nat}(c:0<d)(g:a<=60000)(f:d*10^k<=a)(e:b<=d*10^k+(10^k-1)):begins b a d=true:=by
 unfold begins;rw[xq];refine⟨k,?_,by rw[zj f,zj e];rfl⟩;rw[zC];by_cases q:k<6;·exact q
 ·have:=jy k ∅;have:1*10^k<=d*10^k:=uv _ c;lia
theorem QX{a b d k:Nat}(e:0<d)(c:∀j,j<k->¬a<=d*10^j+(10^j-1))(f:b<d*10^k):begins a b d=false:=by
 unfold begins;rw[rP];intro j Y q;rw[zp,zq,zq]at q;by_cases hj:j<k;·exact c j hj q.2
 ·have:d*10^k<=d*10^j:=wy _ (sV ⋯ ∅);lia
inductive Mj:_|mk(d lo hi:Nat):vs=[.int d,.int lo,.int hi]->hi<=60000->Q (.bl (decide (0<d)&&begins lo hi d)) H->Mj vs H Q E
theorem RE:Ah ["digits","least","greatest","low","high"] ["digits","least","greatest"] (Ad Ly):={}
theorem XY(F:En K "begins_number" "begins_number" Ly f fd):Vv 1 f fd ["digits","least","greatest"] Mj:=by
 refine F.ok RE fun H Q E x h=>?_;obtain⟨d,c,b,rfl,s,k⟩:=h;exists%[AK (Ao AX (pv 0) Ae) (Ag (Aj K5)) Au,An (i:=3) RE.nd (pv 0),An (i:=4) RE.nd (pv 0),CU y0 (Ao aX (pv 3) (pv 2)) (%[AK (Ao bb (pv 4) (pv 1)) (Ag (Aj K5)) Au,An (i:=3) RE.nd (A9 Ec Ae (pv 3)) |An (i:=4) RE.nd (A9 Ce (A9 Ec Ae (pv 4)) Ae)]) |Aj K5];exists _,rfl,rfl,_,rfl;by_cases hd:d=0;·subst hd;rw[zj (show V.int ((0:Nat):Int)=V.int 0 from rfl)];exact Yk k
 ·have a:0<d:=Nat.pos_of_ne_zero hd;rw[zo (show¬V.int (d:Int)=V.int 0 from fun q=>by injection q with q;lia)];refine Vh ⟨_,rfl,_,rfl,?_⟩;rw[zj a,wB]at k;exists fun m o H'=>H'=H/\∃j:Nat,o=[some (.int d),some (.int c),some (.int b),some (.int ((d*10^j:Nat):Int)),some (.int ((d*10^j+(10^j-1):Nat):Int))]/\m=b+1-d*10^j/\∀i,i<j->¬c<=d*10^i+(10^i-1),⟨_,rfl,0,?_,rfl,fun i b=>absurd b (xc _)⟩;·simp[L2.start]
  ·rintro m o H' ⟨rfl,j,rfl,rfl,r⟩;exists _,rfl,_,rfl,_,_,rfl,rfl,_,rfl;by_cases hl:d*10^j<=b
   ·rw[zj ∅];refine Yk ⟨fun g n=>n=H'/\∃i:Nat,g=[some (.int d),some (.int c),some (.int b),some (.int ((d*10^i:Nat):Int)),some (.int ((d*10^i+(10^i-1):Nat):Int))]/\i=j+1/\∀e,e<i->¬c<=d*10^e+(10^e-1),?_,?_⟩
    ·rintro g n ⟨rfl,i,rfl,rfl,l⟩;refine⟨_,?_,rfl,j+1,rfl,rfl,l⟩;have:d*10^(j+1)=10*(d*10^j):=by rw[uc,<-Nat.mul_assoc];lia
     have p:0<d*10^j:=Nat.mul_pos a (tE ⋯);lia
    ·exists _,rfl,_,rfl,_,_,rfl,rfl,_,rfl;by_cases hg:c<=d*10^j+(10^j-1);·rw[zj ∅];refine Yk ?_;rw[Uc a s hl hg]at k;exact k
     ·rw[zo ∅];refine Vh ⟨_,rfl,_,_,rfl,rfl,.inl ⟨⋯,⋯⟩,?_⟩;refine⟨_,rfl,_,_,rfl,rfl,.inl ⟨⋯,⋯⟩,_,_,rfl,rfl,rfl,j+1,?_,rfl,fun e l=>?_⟩
      ·have p:0<10^j:=tE ⋯;have u:d*10^(j+1)=10*(d*10^j):=by rw[uc,<-Nat.mul_assoc];lia
       have t:10^(j+1)=10*10^j:=by rw[uc];lia
       show[some (V.int d),some (V.int c),some (V.int b),some (V.int (10*((d*10^j:Nat):Int))),some (V.int (10*((d*10^j+(10^j-1):Nat):Int)+9))]=_;rw[u,t];have w:(10*((d*10^j:Nat):Int))=((10*(d*10^j):Nat):Int):=∅;have v:(10*((d*10^j+(10^j-1):Nat):Int)+9)=((10*(d*10^j)+(10*10^j-1):Nat):Int):=∅;rw[w,v]
      ·by_cases q:e=j;·rw[q];exact hg
       ·exact r e ∅
   ·rw[zo ∅];refine Vh ?_;rw[QX a r ∅]at k;exact k
def kc(u:UInt8):Nat:=if u.toNat∈known then u.toNat else 63
theorem bP:∀c∈known,c<128:=∎
theorem bQ(u:UInt8):kc u<128:=by
 unfold kc;split;·exact bP _ (by assumption)
 ·decide
theorem Hu{u:UInt8}(a:c∈known):kc u=c↔u.toNat=c:=by
 unfold kc;split;·exact rQ
 ·rename_i h;constructor;·intro e;subst e;exact absurd a ∎
  ·intro e;exact absurd (e▸a) h
theorem K8:∀c,48<=c->c<=57->c∈known:=fun c a b=>by have:∀c,c<58->48<=c->c∈known:=∎;exact this c ∅ a
theorem Qz:∀c,(65<=c/\c<=90)\/(97<=c/\c<=122)->c∈known:=fun c h=>by have:∀c,c<123->(65<=c/\c<=90)\/(97<=c/\c<=122)->c∈known:=∎;exact this c ∅ h
theorem SJ(u:UInt8):(decide (48<=kc u)&&decide (kc u<=57))=isDigit u:=by
 unfold isDigit kc;by_cases h:u.toNat∈known;·rw[zc h]
 ·rw[zb h];have:¬(48<=u.toNat/\u.toNat<=57):=fun q=>h (K8 _ q.1 q.2);by_cases q1:48<=u.toNat;·have:¬u.toNat<=57:=fun a=>this ⟨q1,a⟩;simp[this]
  ·simp[q1]
theorem SI{u:UInt8}(h:isDigit u=true):kc u=u.toNat:=by unfold isDigit at h;rw[zp,zq,zq]at h;exact(Hu (K8 _ h.1 h.2)).mpr rfl
theorem Xr:∀c:Nat,c<128->Unicode.isDigit c=(decide (48<=c)&&decide (c<=57)):=∎
structure Tx(x:Str)(b:Bytes):Prop where
 cs:x.cps.toList=b.map kc
 le:b.length<=30000
theorem Tx.len{b:Bytes}(t:Tx x b):x.length=b.length:=by have:=zT List.length t.cs;rw[z3]at this;rw[<-this];simp[Str.length]
theorem Tx.line{b:Bytes}(t:Tx x b):x.length<=sizeLine:=by rw[t.len];have:=t.le;have e:(30000:Nat)<=sizeLine:=⋯;lia
theorem Z8{b:Bytes}(t:Tx x b)(p:Nat):(sg x p).cps.toList=((b.drop p).take 1).map kc:=by
 show((x.cps.toList.drop (HT.CQ x.length 0 (some (p:Int)))).take (HT.CQ x.length x.length (some ((p:Int)+1))-HT.CQ x.length 0 (some (p:Int))))=_;rw[show((p:Int)+1)=((p+1:Nat):Int) by lia,HT.Fn,HT.Fn,t.len,t.cs,<-vK,<-vJ];congr 1;by_cases h:p<b.length;·rw[xf ∅,xf ∅];congr 1;lia
 ·rw[rX ∅,rX ∅,yN (ze _),yN ∅];simp
theorem Iq{b:Bytes}(t:Tx x b)(h:b[p]?=none):sg x p=Str.empty:=by apply TL.cE;show(sg x p).cps.toList=_;rw[Z8 t,yN (y9.mp h)];rfl
theorem Dr{b:Bytes}(t:Tx x b){u:UInt8}(h:b[p]?=some u):sg x p=⟨#[kc u]⟩:=by apply TL.cE;show(sg x p).cps.toList=_;obtain⟨a,e⟩:=z8.mp h;rw[Z8 t,yf a,e];rfl
theorem HI{b:Bytes}(t:Tx x b)(p:Nat):Txt.isdigit (sg x p)=match b[p]? with|some u=>isDigit u|none=>false:=by cases h:b[p]? with|none=>rw[Iq t h];rfl|some u=>cbv;rw[Dr t h,<-SJ,<-Xr _ (bQ u)];unfold Txt.isdigit;simp[Str.length]
theorem Ym:∀d:Nat,d<10->PySem.intText? ⟨#[48+d]⟩=some (d:Int):=∎
theorem EW{b:Bytes}:(⟨b.drop p,p⟩:Cur).next=b[p]?:=by show(b.drop p).head?=_;rw[tI]
theorem Qq{b:Bytes}:(⟨b.drop p,p⟩:Cur).on=⟨b.drop (p+1),p+1⟩:=by unfold Cur.on;simp
theorem Dn{b a d:Nat}(h:begins b a d=true):d<=a:=by unfold begins at h;rw[xq]at h;obtain⟨k,Y,q⟩:=h;rw[zp,zq,zq]at q;have:d*1<=d*10^k:=wy _ (tE ⋯);lia
structure Jq(b:Bytes)(lo hi p n r q:Nat):Prop where
 eq:numberFrom lo hi (6-r) n ⟨b.drop q,q⟩=number lo hi ⟨b.drop p,p⟩
 le:n<=hi
 r5:r<=5
 nS:10^r<=10*n\/r=0
theorem Jq.start(b:Bytes)(a c p:Nat):Jq b a c p 0 0 p:=⟨rfl,zx _,⋯,.inr rfl⟩
theorem Jq.turn{b:Bytes}{c a r q:Nat}{u:UInt8}(N:Jq b c a p n r q)(l:a<=60000)(i:b[q]?=some u)(j:isDigit u=true)(k:0<10*n+(u.toNat-48))(f:begins c a (10*n+(u.toNat-48))=true):Jq b c a p (10*n+(u.toNat-48)) (r+1) (q+1):=by
 have h:=Dn f;have d:10^r<=10*n+(u.toNat-48):=by
  rcases N.nS with z|z;·lia
  ·rw[z];simp;lia
 have g:r+1<=5:=by
  have:=N.r5;by_cases q5:r=5;·rw[q5]at d;have:(10:Nat)^5=100000:=⋯;lia
  ·lia
 refine⟨?_,h,g,.inl (by rw[uc];lia)⟩;have e:=N.eq;rw[show 6-r=(6-(r+1))+1 by lia]at e;rw[<-e,numberFrom,EW,i];cbv;rw[zc ⟨j,k,f⟩,Qq]
theorem Jq.stop{b:Bytes}{a c r q:Nat}(N:Jq b a c p n r q)(h:∀u,b[q]?=some u->¬(isDigit u=true/\0<10*n+(u.toNat-48)/\begins a c (10*n+(u.toNat-48))=true)):number a c ⟨b.drop p,p⟩=if a<=n then .ok (n,⟨b.drop q,q⟩)else .error q:=by
 have e:=N.eq;have:=N.r5;rw[show 6-r=(5-r)+1 by lia]at e;rw[<-e,numberFrom,EW];have fin:(if a<=n/\n<=c then(Except.ok (n,(⟨b.drop q,q⟩:Cur)):Except Nat (Nat×Cur))else .error q)=if a<=n then .ok (n,⟨b.drop q,q⟩)else .error q:=by
  by_cases z:a<=n;·rw[zc ⟨z,N.le⟩,zc z]
  ·rw[zb (fun y=>z y.1),zb z]
 cases d:b[q]? with|none=>exact fin|some u=>cbv;rw[zb (h u d)];exact fin
theorem BI{c:Bool}{A B:Prop}(e:c=true)(h:A):if c=true then A else B:=by rw[zc e];exact h
theorem B8{c:Bool}{A B:Prop}(e:c=false)(h:B):if c=true then A else B:=by rw[zb (by rw[e];decide)];exact h
theorem SV:bootBuiltins "int"=some (.type "int"):=∎
def FN(a CA:Addr)(p:Nat)(H:Hp)(E:XK):Prop:=∀H' b,H' b=some (.xd [("place",.int p)])->DA a H H'->E (.ref CA) (some b) H'
theorem FN.ast{c:Hp}{E:XK}(h:FN a CA p H E)(k:DA a H c):gM CA p c E:=fun H' i e d=>h H' i e fun b o g f=>d b o (k b o g f)
inductive G6(C CA:Addr):_|mk(a:Addr)(x:Str)(b:Bytes)(p lo hi:Nat):vs=[.ref a,.int lo,.int hi]->Cw C H a x p->Tx x b->1<=lo->hi<=60000->(match number lo hi ⟨b.drop p,p⟩with| .ok (n,c)=>∀H',Cw C H' a x c.at_->c.rest=b.drop c.at_->DA a H H'->Q (.int n) H'| .error e=>FN a CA e H E)->G6 C CA vs H Q E
theorem Wm:Ah ["self","least","greatest","number","longer"] ["self","least","greatest"] (Ad Mv):={}
theorem UT{X W P:Addr}{w:FuncData}(F:En K "take_number" "Reader.take_number" Mv f fd)(R:VJ K mg C CA X fdA W fdH)(FB:En K "begins_number" "begins_number" Ly P w)(bB:Bm K w ["digits","least","greatest"] [])(mB:mg "begins_number"=some (.ref P))(mI:mg "int"=none):dF 3 f fd ["self","least","greatest"] (G6 C CA):=by
 have GA:WZ 1 X fdA ["self","place"] (C3 K):=EV R.fa R.mz;have GH:Vv 1 W fdH ["self"] (G8 C):=IL R.fh R.t;have GB:Vv 1 P w ["digits","least","greatest"] Mj:=XY FB;refine F.Ju Wm fun H Q E T h hx=>?_;obtain⟨a,x,b,p,g,s,rfl,⟨dx,ha⟩,D,h1,U,k⟩:=h;have v:AV 1 _:=T.mono ⋯;exists%[An (i:=3) Wm.nd Ae,CU Br (BS (Sh vF vD HR (ES (pv 0) R.t.cl R.mh GH v R.bh .nil Ar))) (%[An (i:=4) Wm.nd (A9 Ce (A9 Ec Ae (pv 3)) (JG QT (by rfl) mI SV (#v[ES (pv 0) R.t.cl R.mh GH v R.bh .nil Ar]))),AK (FV (BS (Qn GB v rfl mB FB.kp bB .nil Ar (#v[pv 4,pv 1,pv 2])))) (Ag Se) Au,An (i:=3) Wm.nd (pv 4) |DR (pv 0) Ae JV]),AK (Ao FA (pv 3) (pv 1)) (Ag (EN R.dC GA T.h rfl R.fJ R.ba rfl hx (#v[Al (pv 0)]))) Au|Aj (pv 3)];have fin:∀(H':Hp)(n q:Nat)(l:Option V),Cw C H' a x q->DA a H H'->number g s ⟨b.drop p,p⟩=(if g<=n then .ok (n,⟨b.drop q,q⟩)else .error q)->LR (Zq (Oq (Rw (W4 fun i j=>V.bl (decide (i<j))) (Bi 3) (Bi 1))) (HG CA (C3 K) E (Bc (Uz K (Bi 0) "place") B_)) VU) (PR (Bi 3)) {nx:=fun Y H'=>Q .Bz H',rt:=Q} [some (.ref a),some (.int g),some (.int s),some (.int n),l] H':=by
  rintro H' n q l ⟨c,d⟩ t e;rw[e]at k;exists _,rfl,_,rfl,_,_,rfl,rfl,_,rfl;by_cases hl:g<=n;·rw[zc hl]at k;rw[zo ∅];refine Vh ⟨_,rfl,?_⟩;exact k H' ⟨c,d⟩ rfl t
  ·rw[zb hl]at k;rw[zj ∅];exact Yk ⟨_,rfl,a,C,c,_,_,rfl,d,R.t.cl,R.t.nP,Bp x q,Js,Ff R.dC R.at_ (k.ast t)⟩
 exists fun m S H'=>E4 fun(n r q:Nat) (l:Option V)=>A5 (S=[some (.ref a),some (.int g),some (.int s),some (.int n),l]) (Cw C H' a x q) (DA a H H') (Jq b g s p n r q) (m=6-r),⟨_,0,0,p,none,rfl,⟨dx,ha⟩,fun Y Y e Y=>e,.start b g s p,rfl⟩;rintro m S H' ⟨n,r,q,l,rfl,⟨c,d⟩,t,N,rfl⟩;exists _,rfl,a,c,_,rfl,d,C4 _ _,a,x,q,rfl,⟨c,d⟩,D.line,⟨_,rfl⟩,_,rfl,rfl,we,_,rfl;rw[HI D];cases A:b[q]? with
 |none=>refine Vh (fin H' n q l ⟨c,d⟩ t (N.stop fun u e=>by rw[A]at e;cases e))
 |some u=>
  cbv;by_cases hd:isDigit u=true
  ·refine BI hd ⟨fun B y=>E2 fun(L:Nat) (l:Option V)=>A4 (B=[some (.ref a),some (.int g),some (.int s),some (.int L),l]) (Cw C y a x (q+1)) (DA a H y) (Jq b g s p L (r+1) (q+1)),?_,?_⟩;·rintro B y ⟨L,M,rfl,rd,O,Z⟩;have:=Z.r5;exact⟨_,∅,L,r+1,q+1,M,rfl,rd,O,Z,rfl⟩
   ·have a0:48<=u.toNat/\u.toNat<=57:=by unfold isDigit at hd;rw[zp,zq,zq]at hd;exact hd
    have I:PySem.intText? (sg x q)=some ((u.toNat-48:Nat):Int):=by rw[Dr D A,SI hd,show u.toNat=48+(u.toNat-48) by lia];have:=Ym (u.toNat-48) ∅;rw[this];congr 1;lia
    have G:(sg x q).length<=640:=by rw[Dr D A];show 1<=640;decide
    exists _,rfl,_,_,rfl,rfl,.inl ⟨⋯,⋯⟩,_,rfl,a,c,_,rfl,d,C4 _ _,a,x,q,rfl,⟨c,d⟩,D.line,_,_,rfl,I,G,_,_,rfl,rfl;have en:(10:Int)*(n:Int)+((u.toNat-48:Nat):Int)=((10*n+(u.toNat-48):Nat):Int):=∅;cbv;rw[en];exists _,rfl,_,rfl,_,rfl,10*n+(u.toNat-48),g,s,rfl,U,_,rfl;by_cases hb:(decide (0<10*n+(u.toNat-48))&&begins g s (10*n+(u.toNat-48)))=true
    ·refine B8 (show(!_)=false by rw[hb];rfl) ?_;rw[zp,zq]at hb;refine⟨_,rfl,_,rfl,a,C,c,_,_,rfl,d,R.t.cl,R.t.nP,Bp x q,q,1,rfl,rfl,c,_,d,(by show 2<1000;decide),_,_,rfl,?_,?_,N.turn U A hd hb.1 hb.2⟩;·exact⟨c,by rw[show Bx "place" (V.int ((q:Int)+1)) (rf x q)=rf x (q+1)from UI x q (q+1)];exact Aa⟩
     ·exact fun b' o eb J=>by rw[Ac J];exact t b' o eb J
    ·rw[y4]at hb;refine BI (show(!_)=true by rw[hb];rfl) (fin H' n q _ ⟨c,d⟩ t (N.stop fun u' e=>?_));rw[A]at e;cases e;rintro⟨Y,z1,z2⟩;rw[zj z1,z2]at hb;cases hb
  ·rw[y4]at hd;refine B8 hd (fin H' n q l ⟨c,d⟩ t (N.stop fun u' e=>?_));rw[A]at e;cases e;rintro⟨z,Y⟩;rw[hd]at z;cases z
theorem Gb{X:Cx}:YW X "str.startswith" (fun x xs H Q=>∃a b i,x= .str a/\xs=[.str b,.int i]/\Q (.bl (Txt.startswith3 a b i)) H):=by intro d s j H x xs v k Q I e c h;obtain⟨a,b,i,rfl,rfl,h⟩:=h;obtain⟨t,rfl⟩:=e;cases c with|cons g c=>cases c with|cons f c=>cases c;obtain⟨u,rfl⟩:=g;obtain⟨l,rfl⟩:=f;exact SC.startswith3 ⟨.bl _,H,I,rfl,h⟩
structure Wd(y:Str)(wb:Bytes):Prop where
 cs:y.cps.toList=wb.map UInt8.toNat
 kn:∀u∈wb,u.toNat∈known
theorem Wd.len{y:Str}{a:Bytes}(h:Wd y a):y.length=a.length:=by have:=zT List.length h.cs;rw[z3]at this;rw[<-this];simp[Str.length]
theorem RC:∀(a l:Bytes)(_:∀u∈a,u.toNat∈known),((l.map kc).take a.length=a.map UInt8.toNat)↔shl a l=a.length
|[],l,_=>by simp[shl]
|x::a,[],_=>by simp[shl]
|x::a,y::l,b=>by
 have c:=RC a l fun u d=>b u (zg _ d);rw[zH,zm,xE,zH,List.cons.injEq,c,show shl (x::a) (y::l)=if x=y then shl a l+1 else 0 from rfl];by_cases e:x=y;·subst e;rw[zc rfl];have:kc x=x.toNat:=(Hu (b x zh)).mpr rfl;simp[this]
 ·rw[zb e];constructor;·rintro⟨q,Y⟩;have:=(Hu (b x zh)).mp q;exact absurd (xT.mp this).symm e
  ·intro q;lia
theorem Ou{y:Str}{b a:Bytes}(t:Tx x b)(h:Wd y a)(c:a≠[])(p:Nat):Txt.startswith3 x y (p:Int)=decide (shl a (b.drop p)=a.length):=by
 have d:TL.tl y≠[]:=by show y.cps.toList≠[];rw[h.cs];simpa using c
 have g:fromIndex x.length (p:Int)=p:=by unfold fromIndex;rw[zb ∅];lia
 have f:Txt.startswith3 x y (p:Int)=true↔TL.pre (TL.tl y) ((TL.tl x).drop p)=true:=by rw[<-TL.kJ d];unfold Txt.startswith3;rw[g,zp,zq];exact rQ
 have e:TL.pre (TL.tl y) ((TL.tl x).drop p)=true↔shl a (b.drop p)=a.length:=by rw[<-RC a (b.drop p) h.kn];unfold TL.pre;show((x.cps.toList.drop p).take y.cps.toList.length==y.cps.toList)=true↔_;rw[zP,t.cs,h.cs,z3,vK]
 rw[zZ,f,e,zq]
theorem Wl:∀(a l:Bytes)(j:Nat),j<=a.length->(shl (a.take j) l=j↔j<=shl a l)
|a,l,0,_=>by simp[shl]
|[],l,j+1,h=>by simp at h
|x::a,[],j+1,h=>by simp[shl]
|x::a,y::l,j+1,h=>by
 rw[xE,show shl (x::a.take j) (y::l)=if x=y then shl (a.take j) l+1 else 0 from rfl,show shl (x::a) (y::l)=if x=y then shl a l+1 else 0 from rfl];by_cases e:x=y;·rw[zc e,zc e];have:=Wl a l j ‹h›;lia
 ·rw[zb e,zb e];lia
theorem Wd.cut{y:Str}{a:Bytes}(h:Wd y a)(j:Nat):Wd (DO y none (some ((j:Int)+1))) (a.take (j+1)):=by refine⟨?_,fun u b=>h.kn u (wc b)⟩;show((y.cps.toList.drop (HT.CQ y.length 0 none)).take (HT.CQ y.length y.length (some ((j:Int)+1))-HT.CQ y.length 0 none))=_;rw[show((j:Int)+1)=((j+1:Nat):Int) by lia,HT.Fn,HT.Iy,xK,uR,h.cs,<-vJ,h.len];congr 1;rw[List.take_eq_take_iff];lia
inductive L_(C:Addr):_|mk(a:Addr)(x y:Str)(b wb:Bytes)(p:Nat):vs=[.ref a,.str y]->Cw C H a x p->Tx x b->Wd y wb->wb.length<=1000->Q (.int (shl wb (b.drop p):Nat)) H->L_ C vs H Q E
theorem jh:Ah ["self","word","length"] ["self","word"] (Ad Iw):={}
theorem XU(F:En K "shared_length" "Reader.shared_length" Iw f fd)(T:du K C)(t:mg "len"=none):Vv 1 f fd ["self","word"] (L_ C):=by
 refine F.ok jh fun H Q E v h=>?_;obtain⟨a,x,y,b,c,p,rfl,⟨r,q⟩,s,l,w,k⟩:=h;have o:y.length<=sizeLine:=by rw[l.len];have:(1000:Nat)<=sizeLine:=⋯;lia
 exists%[An (i:=2) jh.nd Ae,CU y0 (Ck (Ao FA (pv 2) (AN DP t y8 (#v[pv 1]))) (BK (BS (B4 yc tN tM Gb (Al (pv 0)) (#v[D3 HH (pv 1) IG (CW (A9 Ce (pv 2) Ae)),Al (pv 0)]))))).pt (Ag (Qk (i:=2) jh.nd Ae Vj)) |Aj (pv 2)];exists fun m n H'=>H'=H/\∃j:Nat,n=[some (.ref a),some (.str y),some (.int j)]/\j<=shl c (b.drop p)/\m=c.length-j,⟨_,rfl,0,rfl,zx _,rfl⟩;rintro m n H' ⟨rfl,j,rfl,A,rfl⟩;have u:=U3 c (b.drop p);exists _,rfl,_,rfl,y,rfl,o,_,_,rfl,rfl,_,rfl;rw[l.len];by_cases h1:j<c.length
 ·refine BI (zj ∅) ⟨_,rfl,a,C,r,_,_,rfl,q,T.cl,T.nT,IC x p,rfl,_,rfl,_,rfl,_,_,rfl,rfl,_,rfl,y,rfl,o,_,rfl,a,C,r,_,_,rfl,q,T.cl,T.nP,Bp x p,x,_,p,rfl,rfl,_,rfl,?_⟩;have e:Txt.startswith3 x (DO y none (some ((j:Int)+1))) (p:Int)=decide (j+1<=shl c (b.drop p)):=by rw[Ou s (l.cut j) (by intro z;have:=zT List.length z;rw[zO,yQ]at this;lia),zO,xf ∅];have:=Wl c (b.drop p) (j+1) ∅;rw[zZ,zq,zq];exact this
  by_cases h2:j+1<=shl c (b.drop p)
  ·refine BI (e.trans (zj h2)) ⟨fun d g=>g=H'/\d=[some (.ref a),some (.str y),some (.int ((j+1:Nat):Int))],?_,?_⟩;·rintro d g ⟨rfl,rfl⟩;exact⟨_,∅,rfl,j+1,rfl,h2,rfl⟩
   ·exact⟨_,rfl,_,_,rfl,rfl,rfl,rfl⟩
  ·refine B8 (e.trans (zo h2)) ⟨_,rfl,?_⟩;have:shl c (b.drop p)=j:=∅;rw[this]at k;exact k
 ·refine B8 (zo ∅) (B8 rfl ⟨_,rfl,?_⟩);have:shl c (b.drop p)=j:=∅;rw[this]at k;exact k
def E7(l a:Bytes):Bool:=decide (shl a l=a.length)
inductive EH(K:Frag)(C CA:Addr):_|mk(a g:Addr)(x:Str)(ys:List Str)(b:Bytes)(ws:List Bytes)(p:Nat):vs=[.ref a,.ref g]->Cw C H a x p->Tx x b->Em K H g (ys.map V.str)->a≠g->Paired Wd ys ws->(∀wb∈ws,wb≠[]/\wb.length<=1000)->ws≠[]->ws.length<=1000->(match ws.findIdx? (E7 (b.drop p))with|some i=>∀H',Cw C H' a x (p+(ws.getD i []).length)->DA a H H'->Q (.int i) H'|none=>gM CA (p+most (ws.map fun wb=>shl wb (b.drop p))) H E)->EH K C CA vs H Q E
theorem Gv:bootBuiltins "max"=some (.builtin "max"):=∎
theorem LU(e:Ap H H')(h:Em K H a xs):Em K H' a xs:=by
 rcases h with(h|⟨o,h⟩) |h;·exact .inl (.inl (e _ _ h))
 ·exact .inl (.inr ⟨o,e _ _ h⟩)
 ·exact .inr h
theorem AA{c d:Type}{R:c->d->Prop}:∀{h:List c}{g:List d},Paired R h g->∀{i:Nat}{a:c},h[i]?=some a->∃b,g[i]?=some b/\R a b|_,_,.cons r f,0,a,e=>by cases e;exact⟨_,rfl,r⟩ |_,_,.cons r f,i+1,a,e=>AA f (i:=i) ‹e›
theorem fE{l:List Nat}{m:Nat}(h:m∈l)(e:∀z∈l,z<=m):most l=m:=by
 have d:∀{l:List Nat}{m:Nat},m∈l->m<=most l:=by
  intro l;induction l with
  |nil=>intro m q;cases q
  |cons x l a=>
   intro m q;rw[Dj];rcases zw.mp q with rfl|q;·lia
   ·have:=a q;lia
 have c:∀{l:List Nat}{m:Nat},(∀z∈l,z<=m)->most l<=m:=by intro l;induction l with|nil=>intro m Y;exact zx _|cons x l a=>intro m q;rw[Dj];have:=a (m:=m) fun z b=>q z (zg _ b);have:=q x zh;lia
 exact qe (c e) (d h)
theorem ZG:Ah ["self","words","number","word"] ["self","words"] (Ad IB):={}
theorem mX:Jr ["self","words","number","word"] (Ad IB) {kind:= .function,names:=[(".0",.local),("word",.local),("self",.free)],isGenerator:=false,isCoroutine:=false} [("word",3)]:=Jm ∎
theorem OX{fA fH fS:Addr}{N:FuncData}(F:En K "choose" "Reader.choose" IB f fd)(R:VJ K mg C CA fA fdA fH fdH)(FS:En K "shared_length" "Reader.shared_length" Iw fS N)(bS:Bm K N ["self","word"] [])(mS:N6 K C "shared_length" fS)(mE:mg "enumerate"=none)(mM:mg "max"=none):dF 3 f fd ["self","words"] (EH K C CA):=by
 have GA:WZ 1 fA fdA ["self","place"] (C3 K):=EV R.fa R.mz;have GS:Vv 1 fS N ["self","word"] (L_ C):=XU FS R.t R.ln;refine F.Ju ZG fun H Q E hr h hx=>?_;obtain⟨a,g,x,O,b,r,p,rfl,⟨A,ha⟩,tx,hg,a5,hw,hl,a1,a4,k⟩:=h;have a0:AV 1 _:=hr.mono ⋯;exists%[BB Br rfl (aI (by rfl) mE (#v[pv 1])) (Di rfl (AR (Aw (i:=2) ZG.nd) (AR (Aw (i:=3) ZG.nd) Cp))) (Ag (AK (BS (B4 yc tN tM Gb (Al (pv 0)) (#v[pv 3,Al (pv 0)]))) (%[DR (pv 0) (AN DP R.ln y8 (#v[pv 3])) JV|Aj (pv 2)]) Au)) |EN R.dC GA hr.h rfl R.fJ R.ba rfl hx (#v[A9 Ce (Al (pv 0)) (AN (VA rfl) mM Gv (#v[F_ (own:=[("word",3)]) rfl ZG.nd (Ql (pv 1)) mX (fun Y Y Y Y Y=>Aw (i:=3) ZG.nd) (fun Y Y Y Y Y=>Cg) (fun Y Y Y Y Y=>II (pv 0) R.t.cl mS GS a0 bS .nil Ar (#v[pv 3]))]))])];have W:O.length=r.length:=zE hw;have w:∀{i:Nat}{y:Str},O[i]?=some y->∃c,r[i]?=some c/\Wd y c:=fun{i y} e=>AA hw e;refine⟨_,rfl,g,_,rfl,hg,Y5 (xs:=O.map V.str) (fun i σ H'=>E2 fun v2 v3=>A3 (σ=[some (.ref a),some (.ref g),v2,v3]) (Ap H H') (∀j c,j<i->r[j]?=some c->E7 (b.drop p) c=false)) ⟨none,none,rfl,.refl H,fun j c P Y=>absurd P (xc _)⟩ (fun i σ H' Y ⟨_,_,_,u,_⟩=>LU u hg) ?_ ?_⟩
 ·rintro i v σ H' T Z ⟨v2,v3,rfl,u,P⟩ hT;obtain⟨y,hy,rfl⟩:∃y,O[i]?=some y/\v= .str y:=by rw[z7,zy]at Z;obtain⟨y,e,rfl⟩:=Z;exact⟨y,e,rfl⟩
  obtain⟨c,n,U⟩:=w hy;obtain⟨hn,X⟩:=hl c (zf n);have G:Ap H (Av H' T (.tup [.int (i:Nat),.str y])):=fun S o e=>by rw[Ac (Ab (u S o e) hT)];exact u S o e
  have q:=G a _ ha;have lw:y.length<=sizeLine:=by rw[U.len];have:(1000:Nat)<=sizeLine:=⋯;lia
  exists T,_,rfl,.of Aa,rfl,_,_,rfl,_,_,rfl,rfl,_,rfl,a,C,A,_,_,rfl,q,R.t.cl,R.t.nT,IC x p,rfl,_,rfl,_,rfl,a,C,A,_,_,rfl,q,R.t.cl,R.t.nP,Bp x p,x,y,p,rfl,rfl,_,rfl;have e:=Ou tx U hn p;by_cases hf:shl c (b.drop p)=c.length
  ·refine BI (e.trans (zj hf)) ?_;have M:r.findIdx? (E7 (b.drop p))=some i:=by rw[yL];obtain⟨t,L⟩:=z8.mp n;refine⟨t,by rw[L];exact zj hf,fun j J=>?_⟩;have:=P j (r[j]'(ue J t)) J (z4 _);rw[this];decide
   rw[M]at k;have a3:r.getD i []=c:=by rw[z5,n];rfl
   replace k:∀(H':Hp),Cw C H' a x (p+(r.getD i []).length)->DA a H H'->Q (V.int i) H':=k;rw[a3]at k;refine⟨_,rfl,a,C,A,_,_,rfl,q,R.t.cl,R.t.nP,Bp x p,_,rfl,y,rfl,lw,p,y.length,rfl,rfl,A,_,q,(by show 2<1000;decide),_,rfl,k _ ⟨A,?_⟩ fun S o eb hb=>by rw[Ac hb];exact G S o eb⟩;rw[Aa,U.len,show(p:Int)+((c.length:Nat):Int)=((p+c.length:Nat):Int) by lia,UI]
  ·refine B8 (e.trans (zo hf)) ⟨_,_,rfl,G,fun j B J s=>?_⟩;by_cases hjj:j=i;·subst hjj;rw[n]at s;cases s;exact zo hf
   ·exact P j B ∅ s
 ·rintro σ H' ⟨v2,v3,rfl,u,P⟩;have M:r.findIdx? (E7 (b.drop p))=none:=by rw[wx];intro c hm;obtain⟨j,t,L⟩:=w_.mp hm;exact P j c (by rw[z3,W];exact t) (z8.mpr ⟨t,L⟩)
  rw[M]at k;replace k:gM CA (p+most (r.map fun c=>shl c (b.drop p))) H E:=k;have q:=u a _ ha;refine⟨_,rfl,a,C,A,_,_,rfl,q,R.t.cl,R.t.nP,Bp x p,_,rfl,g,rfl,⟨_,LU u hg⟩,fun D hD=>?_⟩;refine bM (xs:=O.map V.str) (fun i H2=>Ap H' H2/\H2 D=some (.lst ((r.take i).map fun c=>V.int (shl c (b.drop p):Nat)))) ⟨Af hD,Aa⟩ (fun i H2 Y ⟨I,_⟩=>LU (u.trans I) hg) ?_ ?_
  ·rintro i v H2 Z ⟨I,h2⟩;obtain⟨y,hy,rfl⟩:∃y,O[i]?=some y/\v= .str y:=by rw[z7,zy]at Z;obtain⟨y,e,rfl⟩:=Z;exact⟨y,e,rfl⟩
   obtain⟨c,n,U⟩:=w hy;obtain⟨hn,X⟩:=hl c (zf n);refine⟨rfl,?_⟩;unfold HF;cbv;rw[zc rfl];exists _,rfl,a,A,_,rfl,I a _ q,C4 _ _,_,rfl,a,x,y,b,c,p,rfl,⟨A,I a _ q⟩,tx,U,X,_,h2,?_,?_;·rw[z3,zO];have:(1000:Nat)<sizeLine:=⋯;lia
   ·intro S o e;rw[Ac (Ab e hD)];exact I S o e
   ·rw[Aa,yi,n,zu];rfl
  ·rintro H2 ⟨I,h2⟩;rw[z3,W,y1]at h2;refine⟨D,r.map fun c=>((shl c (b.drop p):Nat):Int),rfl,.of (by rw[h2,zG];rfl),?_,fun m hm a2=>?_⟩;·rw[z3];exact xF.mpr a1
   ·have em:m=((most (r.map fun c=>shl c (b.drop p)):Nat):Int):=by obtain⟨c,n,rfl⟩:=zk.mp hm;congr 1;refine(fE (l:=r.map fun c=>shl c (b.drop p)) (zk.mpr ⟨c,n,rfl⟩) fun z hz=>?_).symm;obtain⟨B,s,rfl⟩:=zk.mp hz;have:=a2 _ (zk.mpr ⟨B,s,rfl⟩);exact Int.ofNat_le.mp this
    subst em;exact⟨_,_,rfl,rfl,Js,Ff (p:=p+most (r.map fun c=>shl c (b.drop p))) R.dC R.at_ fun H3 d e3 s3=>k H3 d e3 (u.trans (I.trans s3))⟩
def nu(C CA a:Addr)(x:Str)(b:Bytes)(H:Hp)(E:XK)(r:Except Nat Cur)(Q:Hp->Prop):Prop:=match r with| .ok c=>∀H',Cw C H' a x c.at_->c.rest=b.drop c.at_->DA a H H'->Q H'| .error e=>FN a CA e H E
inductive J0(C CA:Addr):_|mk(a:Addr)(x y:Str)(b wb:Bytes)(p:Nat):vs=[.ref a,.str y]->Cw C H a x p->Tx x b->Wd y wb->wb≠[]->wb.length<=1000->nu C CA a x b H E (lit wb ⟨b.drop p,p⟩) (Q .Bz)->J0 C CA vs H Q E
inductive Fk(C CA:Addr):_|mk(a:Addr)(x:Str)(b:Bytes)(p:Nat):vs=[.ref a,.int 16]->Cw C H a x p->Tx x b->nu C CA a x b H E ((nameIn ⟨b.drop p,p⟩).map (·.2)) (Q .Bz)->Fk C CA vs H Q E
theorem Pj(u:UInt8):((decide (65<=kc u)&&decide (kc u<=90)) ||(decide (97<=kc u)&&decide (kc u<=122)))=isLetter u:=by
 unfold isLetter kc;by_cases h:u.toNat∈known;·rw[zc h]
 ·rw[zb h];have:¬((65<=u.toNat/\u.toNat<=90)\/(97<=u.toNat/\u.toNat<=122)):=fun q=>h (Qz _ q);symm;rw[show((decide (65<=63)&&decide (63<=90)) ||(decide (97<=63)&&decide (63<=122)))=false by decide,vC];intro q;simp only[yt,zp,zJ]at q;exact this q
theorem Xs:∀c:Nat,c<128->Unicode.isAlpha c=((decide (65<=c)&&decide (c<=90)) ||(decide (97<=c)&&decide (c<=122))):=∎
theorem Xu:∀c:Nat,c<128->Unicode.isAlnum c=(((decide (65<=c)&&decide (c<=90)) ||(decide (97<=c)&&decide (c<=122))) ||(decide (48<=c)&&decide (c<=57))):=∎
def Fg(u:UInt8):Bool:=isLetter u||isDigit u
theorem U4{b:Bytes}(t:Tx x b)(p:Nat):Txt.isalpha (sg x p)=match b[p]? with|some u=>isLetter u|none=>false:=by cases h:b[p]? with|none=>rw[Iq t h];rfl|some u=>cbv;rw[Dr t h,<-Pj,<-Xs _ (bQ u)];unfold Txt.isalpha;simp[Str.length]
theorem U5{b:Bytes}(t:Tx x b)(p:Nat):Txt.isalnum (sg x p)=match b[p]? with|some u=>Fg u|none=>false:=by cases h:b[p]? with|none=>rw[Iq t h];rfl|some u=>cbv;unfold Fg;rw[Dr t h,<-Pj,<-SJ,<-Xu _ (bQ u)];unfold Txt.isalnum;simp[Str.length]
structure iz(K:Frag)(mg:Str->Option Value)(C fS:Addr)(fdS:FuncData)(fC:Addr)(fdC:FuncData):Prop where
 fs:En K "shared_length" "Reader.shared_length" Iw fS fdS
 bs:Bm K fdS ["self","word"] []
 ms:N6 K C "shared_length" fS
 en:mg "enumerate"=none
 mx:mg "max"=none
 fc:En K "choose" "Reader.choose" IB fC fdC
 bc:Bm K fdC ["self","words"] []
 mc:N6 K C "choose" fC
theorem jf:Ah ["self","word"] ["self","word"] (Ad ZN):={}
theorem fo{V U T w:Addr}{t l:FuncData}(F:En K "take" "Reader.take" ZN f fd)(R:VJ K mg C CA V fdA U fdH)(i:iz K mg C T t w l):dF 4 f fd ["self","word"] (J0 C CA):=by
 have X:dF 3 w l ["self","words"] (EH K C CA):=OX i.fc R i.fs i.bs i.ms i.en i.mx;refine F.Ju jf fun H Q E O h N=>?_;obtain⟨a,x,y,b,c,p,rfl,⟨A,s⟩,I,D,P,S,k⟩:=h;exists Ag (A2 (II (pv 0) R.t.cl i.mc X O i.bc .nil N.passes (#v[B2 (#v[pv 1])])));refine⟨_,rfl,a,A,_,rfl,s,C4 _ _,_,rfl,Js,fun g r=>?_⟩;have j:a≠g:=Ab s r;exists a,g,x,[y],b,[c],p,rfl,⟨A,by rw[Ac j];exact s⟩,I,.of Aa,j,.cons D .nil,fun G n=>by rw[zB.mp n];exact⟨P,S⟩,by simp,(by show 1<=1000;decide);have M:∀{B:Hp},DA a (Av H g (.tup [.str y])) B->DA a H B:=fun q u o e v=>q u o (by rw[Ac (Ab e r)];exact e) v;rw[JQ]at k;by_cases hf:shl c (b.drop p)=c.length
 ·rw[zc hf]at k;have:[c].findIdx? (E7 (b.drop p))=some 0:=by rw[wF,show E7 (b.drop p) c=true from zj hf];rfl
  rw[this];intro H' L m;exact k H' L (by show(b.drop p).drop c.length=_;rw[xr]) (M m)
 ·rw[zb hf]at k;have:[c].findIdx? (E7 (b.drop p))=none:=by rw[wF,show E7 (b.drop p) c=false from zo hf];rfl
  rw[this];have e:p+most ([c].map fun c=>shl c (b.drop p))=p+shl c (b.drop p):=by rw[zH,wk,Dj];show p+max _ 0=_;rw[Nat.max_zero]
  show gM CA (p+most ([c].map fun c=>shl c (b.drop p))) _ E;rw[e];exact fun H' d W J=>k H' d W fun u o z v=>J u o (by rw[Ac (Ab z r)];exact z)
theorem ZE:Ah ["self","longest","begin"] ["self","longest"] (Ad J9):={}
theorem Sm{I G:Addr}(F:En K "take_name" "Reader.take_name" J9 f fd)(R:VJ K mg C CA I fdA G fdH):dF 3 f fd ["self","longest"] (Fk C CA):=by
 have U:WZ 1 I fdA ["self","place"] (C3 K):=EV R.fa R.mz;have L:Vv 1 G fdH ["self"] (G8 C):=IL R.fh R.t;refine F.Ju ZE fun H Q E A h N=>?_;obtain⟨a,x,b,p,rfl,⟨s,r⟩,t,k⟩:=h;have q:AV 1 _:=A.mono ⋯;exists%[An (i:=2) ZE.nd (Al (pv 0)),AK (FV (BS (Sh PySem.F.slot_str_isalpha PySem.F.type_str_isalpha Va (ES (pv 0) R.t.cl R.mh L q R.bh .nil Ar)))) (Ag (EN R.dC U A.h rfl R.fJ R.ba rfl N (#v[Al (pv 0)]))) Au|CU Br (Ck (Ao FA (A9 Eb (Al (pv 0)) (pv 2)) (pv 1)) (BK (BS (Sh PySem.F.slot_str_isalnum PySem.F.type_str_isalnum Vb (ES (pv 0) R.t.cl R.mh L q R.bh .nil Ar))))).pt (Ag (DR (pv 0) Ae JV))];exists _,rfl,a,C,s,_,_,rfl,r,R.t.cl,R.t.nP,Bp x p,_,rfl,a,s,_,rfl,r,C4 _ _,a,x,p,rfl,⟨s,r⟩,t.line,⟨_,rfl⟩,_,rfl,rfl,we,_,rfl;rw[U4 t];have d:FN a CA p H E->HG CA (C3 K) E (Bc (Uz K (Bi 0) "place") B_) {nx:=fun Y H'=>Q .Bz H',rt:=Q} [some (.ref a),some (.int 16),some (.int p)] H:=fun k=>⟨_,rfl,a,C,s,_,_,rfl,r,R.t.cl,R.t.nP,Bp x p,Js,Ff R.dC R.at_ (k.ast fun Y Y e Y=>e)⟩;unfold nameIn at k;rw[EW]at k;cases z:b[p]? with
 |none=>rw[z]at k;exact BI rfl (d k)
 |some u=>
  rw[z]at k;dsimp only at k|-;by_cases hlt:isLetter u=true
  ·rw[zc hlt]at k;refine B8 (by rw[hlt];rfl) ?_;replace k:∀H',Cw C H' a x (some_ Fg 16 ⟨b.drop p,p⟩).2.at_->(some_ Fg 16 ⟨b.drop p,p⟩).2.rest=b.drop (some_ Fg 16 ⟨b.drop p,p⟩).2.at_->DA a H H'->Q .Bz H':=k;exists fun m w H'=>w=[some (.ref a),some (.int 16),some (.int p)]/\m<=16/\Cw C H' a x (p+(16-m))/\DA a H H'/\(some_ Fg 16 ⟨b.drop p,p⟩).2=(some_ Fg m ⟨b.drop (p+(16-m)),p+(16-m)⟩).2,⟨16,rfl,ze _,⟨s,by rw[uS,uf];exact r⟩,fun Y Y e Y=>e,by rw[uS,uf]⟩;rintro m w H' ⟨rfl,V,⟨c,g⟩,y,e⟩;exists _,rfl,a,C,c,_,_,rfl,g,R.t.cl,R.t.nP,Bp x _,_,rfl,_,_,rfl,rfl,_,rfl,_,_,rfl,rfl,_,rfl;have j:(some_ Fg 16 ⟨b.drop p,p⟩).2=⟨b.drop (p+(16-m)),p+(16-m)⟩->Q .Bz H':=fun S=>by rw[S]at k;exact k H' ⟨c,g⟩ rfl y
   cases m with
   |zero=>exact B8 (zo ∅) (B8 rfl (j (by rw[e];rfl)))
   |succ m=>
    refine BI (zj ∅) ⟨_,rfl,a,c,_,rfl,g,C4 _ _,a,x,_,rfl,⟨c,g⟩,t.line,⟨_,rfl⟩,_,rfl,rfl,we,_,rfl,?_⟩;rw[U5 t];have P:some_ Fg (m+1) ⟨b.drop (p+(16-(m+1))),p+(16-(m+1))⟩=match b[p+(16-(m+1))]? with|some u=>if Fg u=true then(u::(some_ Fg m ⟨b.drop (p+(16-(m+1))+1),p+(16-(m+1))+1⟩).1,(some_ Fg m ⟨b.drop (p+(16-(m+1))+1),p+(16-(m+1))+1⟩).2)else([],⟨b.drop (p+(16-(m+1))),p+(16-(m+1))⟩) |none=>([],⟨b.drop (p+(16-(m+1))),p+(16-(m+1))⟩):=by rw[some_,EW,Qq];cases b[p+(16-(m+1))]?<;>rfl
    rw[P]at e;cases B:b[p+(16-(m+1))]? with
    |none=>rw[B]at e;exact B8 rfl (j e)
    |some u=>
     rw[B]at e;dsimp only at e|-;by_cases ha2:Fg u=true
     ·rw[zc ha2]at e;have J:p+(16-(m+1))+1=p+(16-m):=∅;refine BI ha2 ⟨fun n l=>n=[some (.ref a),some (.int 16),some (.int p)]/\Cw C l a x (p+(16-m))/\DA a H l,?_,?_⟩;·rintro n l ⟨rfl,M,v⟩;exact⟨m,yU m,rfl,∅,M,v,by rw[e,J]⟩
      ·refine⟨_,rfl,a,C,c,_,_,rfl,g,R.t.cl,R.t.nP,Bp x _,_,1,rfl,rfl,c,_,g,(by show 2<1000;decide),rfl,⟨c,?_⟩,fun T o O D=>by rw[Ac D];exact y T o O D⟩;rw[Aa,<-J];congr 2
     ·rw[y4]at ha2;rw[zb (by rw[ha2];decide)]at e;exact B8 ha2 (j e)
  ·rw[zb hlt]at k;rw[y4]at hlt;exact BI (by rw[hlt];rfl) (d k)
def codes(b:Bytes):List V:=b.map fun u=>V.int (u.toNat:Nat)
inductive LV(K:Frag):_|mk(c:Addr)(b:Bytes):vs=[.ref c]->AI K H c (codes b)->b.length<=30000->(∀H' x,Ap H H'->Tx x b->Q (.str x) H')->LV K vs H Q E
theorem Pk:∀b:Bytes,TL.EX [] (b.map (TL.tl∘fun u=>(⟨#[kc u]⟩:Str)))=b.map kc|[]=>rfl|[u]=>rfl|u::v::b=>by have a:=Pk (v::b);rw[zH]at a|-;rw[zH,zH (l:=v::b)];show[kc u]++([]++TL.EX [] _)=_;rw[zH]at a;rw[a];rfl
theorem Mr:Ah ["codes","signs","sign","code"] ["codes"] (Ad Iv):={}
theorem gA:Jr ["codes","signs","sign","code"] (Ad Iv) {kind:= .function,names:=[(".0",.local),("code",.local),("UNKNOWN",.globalImplicit),("signs",.free)],isGenerator:=false,isCoroutine:=false} [("code",3)]:=Jm ∎
theorem K9:bootBuiltins "ord"=some (.builtin "ord"):=∎
theorem XQ{l G:Str}{T S:Tok}(F:En K "text_of" "text_of" Iv f fd)(hk:mg "KNOWN"=some (.str l T))(y:l.cps.toList=known)(hu:mg "UNKNOWN"=some (.str G S))(M:G=⟨#[63]⟩)(Z:mg "ord"=none):Vv 1 f fd ["codes"] (LV K):=by
 refine F.ok Mr fun H Q E hr h=>?_;rename_i P A _ s _;obtain⟨c,b,rfl,O,W,k⟩:=h;have w:(A.deeper (envOfC "text_of" (Ad Iv) s.heap.objs.size f P)).units+1<cLine:=by have:=hr.un;lia
 exists%[An (i:=1) Mr.nd Si,BB y0 rfl (UP (AB (v:= .str l) rfl hk ⟨T,rfl⟩)) (Aw (i:=2) Mr.nd) (Ag (CV w (pv 1) (AN T_ Z K9 (#v[pv 2])) (pv 2) rfl)) |Aj (B4 yc xw xt GN Ai (#v[F_ (own:=[("code",3)]) rfl Mr.nd (BL (pv 0)) gA (fun Y Y Y Y Y=>Aw (i:=3) Mr.nd) (fun Y Y Y Y Y=>Cg) (fun Y Y Y Y Y=>aM w (pv 1) (pv 3) (AB (v:= .str G) rfl hu ⟨S,rfl⟩) ⟨rfl,rfl,rfl,rfl⟩)]))];intro d U;refine⟨l,rfl,WX (fun i J H'=>E2 fun L a=>A5 (J=[some (.ref c),some (.ref d),L,none]) (Ap H H') (H' d=some (.dK a)) (a.length<=i) (∀n:Nat,Ba a (.inl (n:Int))=if n∈known.take i then some (.str ⟨#[n]⟩)else none)) ⟨none,[],rfl,Af U,Aa,ze _,fun n=>by simp[Ba]⟩ ?_ ?_⟩
 ·rintro i p J H' B ⟨L,a,rfl,t,g,hl,I⟩;have z:known[i]?=some p:=by rw[<-y];simpa using B
  refine⟨_,rfl,_,rfl,_,rfl,_,rfl,rfl,d,_,rfl,.k (k:= .inl (p:Int)) g ?_,_,_,rfl,?_,Aa,?_,fun n=>?_⟩;·have h1:=(z8.mp z).1;have m:known.length=67:=∎;have:(67:Nat)<=sizeLine:=⋯;lia
  ·intro R o e;rw[Ac];·exact t R o e
   ·exact Ab e U
  ·have:=Gj a (.inl (p:Int)) (.str ⟨#[p]⟩);lia
  ·rw[Ro,I,yi,z];by_cases e:n=p;·subst e;simp
   ·have:¬(Sum.inl (n:Int):Key)= .inl (p:Int):=fun q=>by injection q with q;lia
    rw[zb this];simp[e]
 ·rintro J H' ⟨L,a,rfl,t,g,hl,I⟩;have C:known.take l.cps.size=known:=by
   have:l.cps.size=known.length:=by rw[<-y];simp
   rw[this,y1]
  rw[C]at I;refine⟨rfl,_,rfl,c,rfl,⟨_,t.seq O⟩,fun D X=>?_⟩;refine C_ (xs:=codes b) (fun i r=>Ap H' r/\r D=some (.lst ((b.take i).map fun u=>V.str ⟨#[kc u]⟩))) ⟨Af X,Aa⟩ (fun i r Y ⟨j,_⟩=>(t.trans j).seq O) ?_ ?_
  ·rintro i v r B ⟨j,m⟩;obtain⟨u,N,rfl⟩:∃u,b[i]?=some u/\v= .int (u.toNat:Nat):=by unfold codes at B;rw[z7,zy]at B;obtain⟨u,e,rfl⟩:=B;exact⟨u,e,rfl⟩
   refine⟨rfl,?_⟩;unfold HF;cbv;rw[zc rfl];exists _,rfl,d,rfl,.inl ⟨_,.inl (j d _ g)⟩,_,rfl,_,.k (k:= .inl (u.toNat:Int)) (j d _ g),_,m,?_,?_;·rw[z3,zO];have:(30000:Nat)<sizeLine:=⋯;lia
   ·intro R o e;rw[Ac (Ab e X)];exact j R o e
   ·rw[Aa,yi,N,zu,I];have:(if u.toNat∈known then some (V.str ⟨#[u.toNat]⟩)else none).getD (.str G)=V.str ⟨#[kc u]⟩:=by
     unfold kc;by_cases h:u.toNat∈known;·rw[zc h,zc h];rfl
     ·rw[zb h,zb h,M];rfl
    rw[this];rfl
  ·rintro r ⟨j,m⟩;have x:(codes b).length=b.length:=by unfold codes;rw[z3]
   rw[x,y1]at m;refine⟨_,D,b.map fun u=>(⟨#[kc u]⟩:Str),rfl,rfl,.inl (.of (by rw[m,zG];rfl)),?_,k r _ (t.trans j) ⟨?_,W⟩⟩
   ·rw[zG,z3];have e1:(b.map (Str.length∘fun u=>(⟨#[kc u]⟩:Str))).sum=b.length:=by clear W m x O k;induction b with|nil=>rfl|cons u b ih=>rw[zH,vI,ih,zm];show 1+_=_;lia
    rw[e1];show b.length+b.length*0<=_;lia
   ·rw[TL.join_eq];show TL.tl (Str.join _ _)=_;rw[TL.Es,zG];exact Pk b
theorem Qd:Ah ["text","sign"] ["text"] (Ad Iz):={}
theorem cX:Jr ["text","sign"] (Ad Iz) {kind:= .function,names:=[(".0",.local),("sign",.local),("ord",.globalImplicit)],isGenerator:=false,isCoroutine:=false} [("sign",1)]:=Jm ∎
inductive J3:_|mk(x:Str):vs=[.str x]->x.cps.size<=30000->(∀H' l,Ap H H'->H l=none->H' l=some (.lst (x.cps.toList.map fun c=>V.int (c:Nat)))->Q (.ref l) H')->J3 vs H Q E
theorem UW(F:En K "codes_of" "codes_of" Iz f fd)(j:mg "ord"=none):Vv 1 f fd ["text"] J3:=by
 refine F.ok Qd fun H Q E n h=>?_;obtain⟨x,rfl,p,k⟩:=h;exists Ag (Aj (F_ (own:=[("sign",1)]) rfl Qd.nd (UP (pv 0)) cX (fun Y Y Y Y Y=>Aw (i:=1) Qd.nd) (fun Y Y Y Y Y=>Cg) (fun Y Y Y Y Y=>AN T_ j K9 (#v[pv 1]))));refine⟨_,rfl,x,rfl,fun D d=>jK (fun i a=>Ap H a/\a D=some (.lst ((x.cps.toList.take i).map fun c=>V.int (c:Nat)))) ⟨Af d,Aa⟩ ?_ ?_⟩
 ·rintro i c a l ⟨b,g⟩;refine⟨rfl,?_⟩;unfold HF;cbv;rw[zc rfl];exists _,rfl,_,rfl,rfl,_,g,?_,?_;·rw[z3,zO];have:(30000:Nat)<sizeLine:=⋯;simp only[xi];lia
  ·intro m o e;rw[Ac (Ab e d)];exact b m o e
  ·rw[Aa,yi,show x.cps.toList[i]?=some c by simpa using l,zu];rfl
 ·rintro a ⟨b,g⟩;refine k a D b d ?_;rw[g];congr 3;rw[show x.cps.size=x.cps.toList.length by simp,y1]
def Bo(a:List Nat)(u:UInt8):Option UInt8:=if u.toNat∈a then some u else none
inductive Fl(K:Frag)(C CA:Addr):_|mk(a g:Addr)(x:Str)(b:Bytes)(p w h:Nat)(cs:List Nat):vs=[.ref a,.ref g,.int w,.int h]->Cw C H a x p->Tx x b->Em K H g (cs.map fun c=>V.str ⟨#[c]⟩)->a≠g->(∀c∈cs,c∈known)->1<=w->w<=13->h<=13->(match flat (Bo cs) w (w*h) 0 ⟨b.drop p,p⟩with| .ok (us,c)=>∀H' y,Cw C H' a x c.at_->c.rest=b.drop c.at_->DA a H H'->y.cps.toList=us.map UInt8.toNat->Q (.str y) H'| .error e=>FN a CA e H E)->Fl K C CA vs H Q E
theorem MZ:∀b:Bytes,TL.EX [] (b.map (TL.tl∘fun u=>(⟨#[u.toNat]⟩:Str)))=b.map UInt8.toNat|[]=>rfl|[u]=>rfl|u::v::b=>by have a:=MZ (v::b);rw[zH]at a|-;rw[zH,zH (l:=v::b)];show[u.toNat]++([]++TL.EX [] _)=_;rw[zH]at a;rw[a];rfl
theorem dX{g:Addr}(e:DA a H H')(n:g≠a)(h:Em K H g xs):Em K H' g xs:=by
 rcases h with(h|⟨o,h⟩) |h;·exact .inl (.inl (e _ _ h n))
 ·exact .inl (.inr ⟨o,e _ _ h n⟩)
 ·exact .inr h
structure RM(C CA fO:Addr)(fdO:FuncData)(fT:Addr)(fdT:FuncData):Prop where
 cl:Rj K C
 one:dF 3 fO fdO ["self","signs"] (DQ K C CA)
 bo:Bm K fdO ["self","signs"] []
 mo:N6 K C "take_one_of" fO
 take:dF 4 fT fdT ["self","word"] (J0 C CA)
 bt:Bm K fdT ["self","word"] []
 mt:N6 K C "take" fT
theorem U9:Ah ["reader","signs","wide","high","found","count"] ["reader","signs","wide","high"] (Ad JB):={}
theorem lx:Wd "\n" [10]:=⟨∎,∎⟩
theorem Sn{fO fT:Addr}{b2 b1:FuncData}(F:En K "read_rows" "read_rows" JB f fd)(M:RM C CA fO b2 fT b1)(mr:mg "range"=none):dF 5 f fd ["reader","signs","wide","high"] (Fl K C CA):=by
 refine F.Ju U9 fun H Q E hr h hx=>?_;obtain⟨a,g,x,b,p,W,T,m,rfl,⟨dx,ha⟩,R,hg,a9,L,b3,a6,hh,k⟩:=h;have Z:AV 3 _:=hr.mono ⋯;exists%[An (i:=4) U9.nd (AE Cd),BB Br rfl (ER (by rfl) mr (#v[A9 Ec (pv 2) (pv 3)])) (Aw (i:=5) U9.nd) (%[A2 (B4 zK zW zY By (pv 4) (#v[II (pv 0) M.cl M.mo M.one Z M.bo .nil hx.passes (#v[pv 1])])) |AK (Ao AX (A9 ME (pv 5) (pv 2)) (A9 Eb (pv 2) Ae)) (Ag (A2 (II (pv 0) M.cl M.mt M.take hr M.bt .nil hx.passes (#v[Ai])))) Au]) |Aj (B4 yc xw xt GN Ai (#v[pv 4]))];refine⟨zx _,fun l hl=>?_⟩;have t:a≠l:=Ab ha hl;have b4:W*T<=169:=uw a6 hh;exists _,rfl,_,rfl,_,_,rfl,rfl,.inl ⟨∅,∅⟩,_,rfl,?_,?_;·have:(0:Int)<=(W:Int)*(T:Int):=Int.mul_nonneg ∅ ∅;lia
 ·have:(W:Int)*(T:Int)=((W*T:Nat):Int):=by rw[tK]
  rw[this];lia
 have eN:((W:Int)*(T:Int)).toNat=W*T:=by
  have:(W:Int)*(T:Int)=((W*T:Nat):Int):=by rw[tK]
  rw[this];rfl
 rw[eN];refine GX (fun i σ H'=>E3 fun(v5:Option V) (j:Bytes) (c:Cur)=>A7 (σ=[some (.ref a),some (.ref g),some (.int W),some (.int T),some (.ref l),v5]) (Cw C H' a x c.at_) (c.rest=b.drop c.at_) (DA a H H') (H' l=some (.lst (j.map fun u=>V.str ⟨#[u.toNat]⟩))) (j.length=i) (flat (Bo m) W (W*T) 0 ⟨b.drop p,p⟩=(flat (Bo m) W (W*T-i) i c).map fun r=>(j++r.1,r.2))) ⟨none,[],⟨b.drop p,p⟩,rfl,⟨dx,by rw[Ac t];exact ha⟩,rfl,fun B o e Y=>by rw[Ac (Ab e hl)];exact e,Aa,rfl,?_⟩ ?_ ?_;·rw[uR];cases flat (Bo m) W (W*T) 0 ⟨b.drop p,p⟩<;>rfl
 ·rintro i σ H' hi ⟨v5,j,c,rfl,⟨a2,a1⟩,I,O,w,hn,e⟩;have a8:Em K H' g (m.map fun c=>V.str ⟨#[c]⟩):=dX O (zN a9) hg;obtain⟨S,q⟩:=c;replace I:S=b.drop q:=I;subst I;have a4:W*T-i=(W*T-(i+1))+1:=∅;rw[a4,flat,EW,Qq]at e;refine⟨_,rfl,.inl ⟨rfl,_,AI.of w⟩,_,rfl,a,a2,_,rfl,a1,C4 _ _,_,rfl,a,g,x,q,m.map fun c=>(⟨#[c]⟩:Str),rfl,⟨a2,a1⟩,R.line,by rw[zG];exact a8,?_⟩;have n:sg x q∈(m.map fun c=>(⟨#[c]⟩:Str))↔∃u,b[q]?=some u/\u.toNat∈m:=by
   cases v:b[q]? with
   |none=>
    rw[Iq R v];constructor;·intro z;obtain⟨c,Y,z⟩:=zk.mp z;have:=zT (fun s:Str=>s.cps.size) z;cases this
    ·rintro⟨u,z,Y⟩;cases z
   |some u=>
    rw[Dr R v];constructor
    ·intro z;obtain⟨c,I,z⟩:=zk.mp z;have z2:c=kc u:=by have:=zT (fun s:Str=>s.cps.toList) z;simpa using this
     exists u,rfl;rw[(Hu (L c I)).mp z2.symm];exact I
    ·rintro⟨u',z,G⟩;cases z;exact zk.mpr ⟨u.toNat,G,by rw[(Hu (L _ G)).mpr rfl]⟩
  cases v:b[q]? with
  |none=>rw[zb (fun z=>by obtain⟨u,z,Y⟩:=n.mp z;rw[v]at z;cases z)];rw[v]at e;replace e:flat (Bo m) W (W*T) 0 ⟨b.drop p,p⟩= .error q:=e;rw[e]at k;exact FN.ast k O
  |some u=>
   rw[v]at e;by_cases G:u.toNat∈m
   ·rw[zc (n.mpr ⟨u,v,G⟩)];intro H2 ⟨A,b0⟩ X;have a5:sg x q=⟨#[u.toNat]⟩:=by rw[Dr R v,(Hu (L _ G)).mpr rfl]
    have a7:=X _ _ w (zN t);have es:(some u).bind (Bo m)=some u:=by show Bo m u=_;unfold Bo;rw[zc G]
    rw[es]at e;dsimp only at e;have a0:j.length<sizeLine:=by have:(169:Nat)<sizeLine:=⋯;lia
    rw[a5];refine⟨l,_,_,rfl,rfl,a7,by rw[z3];exact a0,?_⟩;have N:(Av H2 l (.lst (j.map (fun u=>V.str ⟨#[u.toNat]⟩)++[.str ⟨#[u.toNat]⟩]))) a=some (.ins C A (rf x (q+1))):=by rw[Ac t];exact b0
    have J:DA a H (Av H2 l (.lst (j.map (fun u=>V.str ⟨#[u.toNat]⟩)++[.str ⟨#[u.toNat]⟩]))):=fun B o P D=>by rw[Ac (Ab P hl)];exact X B o (O B o P D) D
    have e5:j.map (fun u=>V.str ⟨#[u.toNat]⟩)++[.str ⟨#[u.toNat]⟩]=(j++[u]).map fun u=>V.str ⟨#[u.toNat]⟩:=by rw[zu];rfl
    exists _,rfl,_,rfl,_,_,rfl,rfl,∅,_,rfl,_,_,rfl,rfl,rfl,_,rfl;have ei:(0:Int)+(i:Int)=(i:Int):=∅;have em:(i:Int)%(W:Int)=((i%W:Nat):Int):=by first|exact(tq i W).symm|exact(Int.ofNat_emod i W).symm|exact(Int.natCast_mod i W).symm
    by_cases hlast:i%W=W-1
    ·rw[zc hlast,JQ]at e;refine BI (zj ?_) ?_;·rw[ei];rw[em];congr 1;lia
     ·exists _,rfl,a,A,_,rfl,N,C4 _ _,a,x,_,b,[10],q+1,rfl,⟨A,N⟩,R,lx,by simp,(by show 1<=1000;decide);rw[JQ];by_cases hf:shl [10] (b.drop (q+1))=[(10:UInt8)].length
      ·rw[zc hf];rw[show(LF:UInt8)=10 from rfl,zc hf]at e;intro H3 a3 Z U;refine⟨_,j++[u],⟨b.drop (q+1+1),q+1+1⟩,rfl,a3,rfl,fun B o P D=>U B o (J B o P D) D,?_,by rw[zd,hn];rfl,?_⟩;·rw[<-e5];exact U l _ Aa (zN t)
       ·rw[e];show Except.map _ (Except.map _ (flat (Bo m) W (W*T-(i+1)) (i+1) ⟨(b.drop (q+1)).drop 1,q+1+1⟩))=_;rw[xr];cases flat (Bo m) W (W*T-(i+1)) (i+1) ⟨b.drop (q+1+1),q+1+1⟩with|error z=>rfl|ok r=>show Except.ok (j++u::r.1,r.2)=Except.ok (j++[u]++r.1,r.2);rw[zX];rfl
      ·rw[zb hf];rw[show(LF:UInt8)=10 from rfl,zb hf]at e;replace e:flat (Bo m) W (W*T) 0 ⟨b.drop p,p⟩= .error (q+1+shl [10] (b.drop (q+1))):=e;rw[e]at k;exact fun H3 d e3 k3=>k H3 d e3 fun B o P D=>k3 B o (J B o P D) D
    ·rw[zb hlast]at e;refine B8 (zo ?_) ?_;·rw[ei];rw[em];intro z;injection z with z;lia
     ·refine⟨_,j++[u],⟨b.drop (q+1),q+1⟩,rfl,⟨A,N⟩,rfl,J,by rw[<-e5];exact Aa,by rw[zd,hn];rfl,?_⟩;rw[e];cbv;cases flat (Bo m) W (W*T-(i+1)) (i+1) ⟨b.drop (q+1),q+1⟩with|error z=>rfl|ok r=>show Except.ok (j++u::r.1,r.2)=Except.ok (j++[u]++r.1,r.2);rw[zX];rfl
   ·rw[zb (fun z=>by obtain⟨u',z,z2⟩:=n.mp z;rw[v]at z;cases z;exact G z2)];have es:(some u).bind (Bo m)=none:=by show Bo m u=_;unfold Bo;rw[zb G]
    rw[es]at e;replace e:flat (Bo m) W (W*T) 0 ⟨b.drop p,p⟩= .error q:=e;rw[e]at k;exact FN.ast k O
 ·rintro σ H' ⟨v5,j,c,rfl,rd,I,O,w,hn,e⟩;rw[uS,flat]at e;rw[e]at k;replace k:∀H' y,Cw C H' a x c.at_->c.rest=b.drop c.at_->DA a H H'->y.cps.toList=(j++[]).map UInt8.toNat->Q (.str y) H':=k;refine⟨rfl,_,rfl,_,l,j.map fun u=>(⟨#[u.toNat]⟩:Str),rfl,rfl,.inl (.of (by rw[w,zG];rfl)),?_,k H' _ rd I O ?_⟩
  ·rw[zG,z3];have e1:∀j:Bytes,(j.map (Str.length∘fun u=>(⟨#[u.toNat]⟩:Str))).sum=j.length:=by intro j;induction j with|nil=>rfl|cons u b ih=>rw[zH,vI,ih,zm];show 1+_=_;lia
   rw[e1];show j.length+j.length*0<=_;lia
  ·rw[TL.join_eq];show TL.tl (Str.join _ _)=_;rw[TL.Es,zG,zR];exact MZ j
inductive Md:_|mk(x y w h:Nat):vs=[.int x,.int y,.int w,.int h]->(∀H',Ap H H'->Q (.bl (decide (x=0\/x+1=w\/y=0\/y+1=h))) H')->Md vs H Q E
inductive Ip:_|mk(o w h:Nat):vs=[.int o,.int w,.int h]->0<w->w<=13->o/w<h->Q (.int (13*(h-1-o/w)+o%w:Nat)) H->Ip vs H Q E
theorem Xc(x w:Nat):(if false=true then !NA (V.int x) [V.int 0,V.int ((w:Int)-1)]else NA (V.int x) [V.int 0,V.int ((w:Int)-1)])=decide (x=0\/x+1=w):=by rw[zb ⋯];show((0:Int)==(x:Int) ||((((w:Int)-1)==(x:Int)) ||false))=_;rw[zZ];simp only[wC,yt,zP,zJ];lia
theorem jo:Ah ["x","y","wide","high"] ["x","y","wide","high"] (Ad Qg):={}
theorem XX(F:En K "on_edge" "on_edge" Qg f fd):Vv 1 f fd ["x","y","wide","high"] Md:=by
 refine F.ok jo fun H Q E m h=>?_;obtain⟨x,y,W,T,rfl,k⟩:=h;exists Ag (Aj (OS (Bn EU (pv 0) (B2 (#v[Ae,A9 Eb (pv 2) Ae])) #v[]) (ED (Bn EU (pv 1) (B2 (#v[Ae,A9 Eb (pv 3) Ae])) #v[]))));refine⟨_,rfl,_,rfl,_,_,rfl,rfl,K0,fun g j=>⟨g,_,rfl,.inr (.of Aa),rfl,rfl,_,rfl,?_⟩⟩;have i:(if false=true then !NA (V.int x) [V.int 0,V.int ((W:Int)-1)]else NA (V.int x) [V.int 0,V.int ((W:Int)-1)])=decide (x=0\/x+1=W):=Xc x W;have c:Ap H (Av H g (.tup [V.int 0,V.int ((W:Int)-1)])):=Af j;by_cases hx:x=0\/x+1=W;·refine BI (i.trans (zj hx)) ?_;have:=k _ c;rw[zj (show x=0\/x+1=W\/y=0\/y+1=T by lia)]at this;exact this
 ·refine B8 (i.trans (zo hx)) ⟨_,rfl,_,rfl,_,_,rfl,rfl,K0,fun d a=>⟨d,_,rfl,.inr (.of Aa),rfl,rfl,?_⟩⟩;have l:(if false=true then !NA (V.int y) [V.int 0,V.int ((T:Int)-1)]else NA (V.int y) [V.int 0,V.int ((T:Int)-1)])=decide (y=0\/y+1=T):=Xc y T;show Q (.bl (if false=true then !NA (V.int y) [V.int 0,V.int ((T:Int)-1)]else NA (V.int y) [V.int 0,V.int ((T:Int)-1)])) _;rw[l];have:=k _ (c.trans (fun b o e=>by rw[Ac (Ab e a)];exact e:Ap _ (Av (Av H g (.tup [V.int 0,V.int ((W:Int)-1)])) d (.tup [V.int 0,V.int ((T:Int)-1)]))));rw[y3.mpr (show(x=0\/x+1=W\/y=0\/y+1=T)↔(y=0\/y+1=T) by lia)]at this;exact this
theorem ZH:Ah ["order","wide","high"] ["order","wide","high"] (Ad Lx):={}
theorem OY{t:Tok}(F:En K "cell_in_order" "cell_in_order" Lx f fd)(b:mg "STRIDE"=some (.int 13 t)):Vv 1 f fd ["order","wide","high"] Ip:=by
 refine F.ok ZH fun H Q E g h=>?_;obtain⟨o,W,T,rfl,e,a,i,k⟩:=h;exists Ag (Aj (A9 Ce (A9 Ec (AB (v:= .int 13) rfl b ⟨t,rfl⟩) (A9 Eb (A9 Eb (pv 2) Ae) (A9 IK (pv 0) (pv 1)))) (A9 ME (pv 0) (pv 1))));have d:(o:Int)/(W:Int)=((o/W:Nat):Int):=by first|exact(tz o W).symm|exact(Int.ofNat_ediv o W).symm
 have c:(o:Int)%(W:Int)=((o%W:Nat):Int):=by first|exact(tq o W).symm|exact(Int.ofNat_emod o W).symm
 exists _,rfl,_,_,rfl,rfl,_,rfl,_,rfl,_,_,rfl,rfl,?_,_,_,rfl,rfl,_,_,rfl,rfl,.inl ⟨⋯,⋯⟩,_,rfl,_,rfl,_,_,rfl,rfl,∅,_,_,rfl,rfl;·exact⟨∅,∅⟩
 ·cbv;rw[d,c];have:(13*((T:Int)-1-((o/W:Nat):Int))+((o%W:Nat):Int))=((13*(T-1-o/W)+o%W:Nat):Int):=∅;rw[this];exact k
def A1(a:List Nat)(w h o i:Nat):List Nat:=(List.range 169).map fun c=>if c%13<w/\c/13<h/\(h-1-c/13)*w+c%13<i then a.getD ((h-1-c/13)*w+c%13) o else o
inductive LZ:_|mk(y:Str)(w h o:Nat):vs=[.str y,.int w,.int h,.str ⟨#[o]⟩]->y.cps.size=w*h->1<=w->w<=13->1<=h->h<=13->(∀H' z,Ap H H'->z.cps.toList=A1 y.cps.toList w h o (w*h)->Q (.str z) H')->LZ vs H Q E
theorem Ks(a:List Nat)(w h o:Nat):A1 a w h o 0=List.replicate 169 o:=by unfold A1;rw[sL];refine⟨by simp,fun z b=>?_⟩;obtain⟨c,Y,rfl⟩:=zk.mp b;rw[zb ∅]
theorem HQ{w h:Nat}(p:1<=w)(l:w<=13)(n:i<w*h):(c%13<w/\c/13<h/\(h-1-c/13)*w+c%13=i)↔c=13*(h-1-i/w)+i%w:=by
 have o:i/w<h:=(yw ∅).mpr (by rw[yh];exact n);have g:i%w<w:=wV _ ∅;have a:w*(i/w)+i%w=i:=tH i w;constructor
 ·rintro⟨k,q,j⟩;clear a;have f:i/w=h-1-c/13:=by rw[<-j,yh,uj ∅,v_ k,uf]
  have b:i%w=c%13:=by rw[<-j,yh,ui,xn k]
  rw[f,b];lia
 ·generalize i/w=d at o a|-;generalize i%w=m at g a|-;intro e;have f:c/13=h-1-d:=∅;have b:c%13=m:=∅;rw[f,b];exists g,∅;have:h-1-(h-1-d)=d:=∅;rw[this,yh];exact a
theorem Kt{a:List Nat}{w h o v:Nat}(m:1<=w)(f:w<=13)(r:i<w*h)(n:a[i]?=some v):(A1 a w h o i).set (13*(h-1-i/w)+i%w) v=A1 a w h o (i+1):=by
 apply xJ;·simp[A1]
 ·intro c t s;have l:∀j(p:c<(A1 a w h o j).length),(A1 a w h o j)[c]=if c%13<w/\c/13<h/\(h-1-c/13)*w+c%13<j then a.getD ((h-1-c/13)*w+c%13) o else o:=fun j p=>by simp only[A1,xp,vg]
  rw[tf,l,l];have k:=HQ (c:=c) m f r;by_cases e:13*(h-1-i/w)+i%w=c;·rw[zc e];obtain⟨d,b,g⟩:=k.mpr e.symm;rw[zc ⟨d,b,∅⟩,g,z5,n];rfl
  ·rw[zb e];by_cases q:c%13<w/\c/13<h/\(h-1-c/13)*w+c%13<i;·rw[zc q,zc ⟨q.1,q.2.1,∅⟩]
   ·rw[zb q,zb];rintro⟨d,b,g⟩;by_cases q4:(h-1-c/13)*w+c%13=i;·exact e (k.mp ⟨d,b,q4⟩).symm
    ·exact q ⟨d,b,∅⟩
theorem GU:∀b:List Nat,TL.EX [] (b.map (TL.tl∘fun u=>(⟨#[u]⟩:Str)))=b|[]=>rfl|[u]=>rfl|u::v::b=>by have a:=GU (v::b);rw[zH]at a|-;rw[zH];show[u]++([]++TL.EX [] _)=_;rw[a];rfl
theorem Ex{j:Nat}(h:j<n):fU n (j:Int)=some j:=by unfold fU;rw[zc ∅,zc ∅];rfl
theorem D0:Ah ["written","wide","high","outside","signs","order","sign"] ["written","wide","high","outside"] (Ad Qe):={}
theorem XS{J:Addr}{j:FuncData}{t L:Tok}(F:En K "spread" "spread" Qe f fd)(S:En K "cell_in_order" "cell_in_order" Lx J j)(bI:Bm K j ["order","wide","high"] [])(X:mg "cell_in_order"=some (.ref J))(hs:mg "STRIDE"=some (.int 13 t))(hC:mg "CELLS"=some (.int 169 L))(en:mg "enumerate"=none):Vv 2 f fd ["written","wide","high","outside"] LZ:=by
 have GI:Vv 1 J j ["order","wide","high"] Ip:=OY S hs;refine F.ok D0 fun H Q E hr h=>?_;obtain⟨y,W,T,o,rfl,M,hw,m,hh,a0,k⟩:=h;exists%[An (i:=4) D0.nd (A9 Qo (AE (#v[pv 3])) (AB (v:= .int 169) rfl hC ⟨L,rfl⟩)),BB y0 rfl (IH (by rfl) en (#v[pv 0])) (Di rfl (AR (Aw (i:=5) D0.nd) (AR (Aw (i:=6) D0.nd) Cp))) (Ag (HL (pv 6) (HN (pv 4) (Qn GI hr rfl X S.kp bI .nil Ar (#v[pv 5,pv 1,pv 2])) set_list))) |Aj (B4 yc xw xt GN Ai (#v[pv 4]))];have nL:(169:Nat)<=sizeLine:=⋯;refine⟨_,rfl,Js,fun G n=>⟨G,_,_,rfl,rfl,Aa,⋯,⋯,(by show 1*169<=sizeLine;decide),fun l N=>?_⟩⟩;have C:Ap H (Av (Av H G (.lst [.str ⟨#[o]⟩])) l (.lst ((A1 y.cps.toList W T o 0).map fun c=>V.str ⟨#[c]⟩))):=fun x s e=>by
  have w:(Av H G (.lst [.str ⟨#[o]⟩])) x=some s:=by rw[Ac (Ab e n)];exact e
  rw[Ac (Ab w N)];exact w
 have eL:(List.replicate (169:Int).toNat [V.str ⟨#[o]⟩]).flatten=(A1 y.cps.toList W T o 0).map fun c=>V.str ⟨#[c]⟩:=by rw[Ks,vf,wM];rfl
 rw[eL];have U:H l=none:=Ap.free (Af n) N;refine⟨_,rfl,y,rfl,GY (fun i z H'=>E2 fun B A=>A3 (z=[some (.str y),some (.int W),some (.int T),some (.str ⟨#[o]⟩),some (.ref l),B,A]) (Ap H H') (H' l=some (.lst ((A1 y.cps.toList W T o i).map fun c=>V.str ⟨#[c]⟩)))) ⟨none,none,rfl,C,Aa⟩ ?_ ?_⟩
 ·rintro i c z H' D O ⟨B,A,rfl,r,a⟩ R;have p:i<W*T:=by rw[<-M];exact(tS.mp O).1
  have P:i/W<T:=(yw ∅).mpr (by rw[yh];exact p);have I:l≠D:=Ab a R;exists D,_,rfl,.of Aa,rfl,_,_,rfl,_,_,rfl,rfl,_,rfl,_,rfl,_,rfl,_,rfl,_,rfl,i,W,T,rfl,∅,m,P,l,_,_,13*(T-1-i/W)+i%W,rfl,rfl,by rw[Ac I];exact a,?_,_,_,rfl,?_;·have hm:i%W<W:=wV _ ∅;rw[z3,show(A1 y.cps.toList W T o i).length=169 by simp[A1]];exact Ex (by generalize i/W=d at P|-;lia)
  ·intro x s e;rw[Ac (Ab e U),Ac (Ab (r x s e) R)];exact r x s e
  ·rw[Aa,<-Kt hw m p (show y.cps.toList[i]?=some c by simpa using O),wK]
 ·rintro z H' ⟨B,A,rfl,r,a⟩;rw[M]at a;have g:(A1 y.cps.toList W T o (W*T)).length=169:=by simp[A1]
  refine⟨rfl,_,rfl,_,l,(A1 y.cps.toList W T o (W*T)).map fun c=>(⟨#[c]⟩:Str),rfl,rfl,.inl (.of (by rw[a,zG];rfl)),?_,k H' _ r ?_⟩
  ·rw[zG,z3,g];have w:∀q:List Nat,(q.map (Str.length∘fun u=>(⟨#[u]⟩:Str))).sum=q.length:=by intro q;induction q with|nil=>rfl|cons u b Z=>rw[zH,vI,Z,zm];show 1+_=_;lia
   rw[w,g];show 169+169*0<=_;lia
  ·refine(zT TL.tl (TL.join_eq _ _)).trans ?_;rw[TL.Es,zG];exact GU _
section
variable(P:Program)(w:World)(K:Frag)(mg:Str->Option Value)(base:Heap)
inductive dI(CX:Ib)(k:Nat)(x:Str)(ps:List Str)(sp:Sp):Prop|mk(f fd:_):mg x=some (.ref f)->keepIn K (.ref f)=true->Bm K fd ps []->D9 P w K mg base CX k f fd ps sp->dI CX k x ps sp
inductive VN(CX:Ib)(k:Nat)(C:Addr)(x:Str)(ps:List Str)(sp:Sp):Prop|mk(f fd:_):N6 K C x f->Bm K fd ps []->D9 P w K mg base CX k f fd ps sp->VN CX k C x ps sp
inductive YX(CX:Ib)(k:Nat)(C:Addr)(ps:List Str)(sp:Sp):Prop|mk(f fd:_):Mk K C f->Bm K fd ps []->D9 P w K mg base CX k f fd ps sp->YX CX k C ps sp
end
section
variable{P:Program}{w:World}{K:Frag}{mg:Str->Option Value}{base:Heap}
theorem Def.has{e:Ib}{k:Nat}{c:Stmt}{a:List Str}{d:Sp}(D:Def K mg x c a)(h:∀{f fd},En K x x c f fd->D9 P w K mg base e k f fd a d):dI P w K mg base e k x a d:=by obtain⟨f,fd,F,b,m⟩:=D;exact⟨f,fd,m,F.kp,b,h F⟩
theorem Met.has{g:Ib}{k:Nat}{a:Str}{d:Stmt}{c:List Str}{e:Sp}(D:Met K C x a d c)(h:∀{f fd},En K x a d f fd->D9 P w K mg base g k f fd c e):VN P w K mg base g k C x c e:=by obtain⟨f,fd,F,b,m⟩:=D;exact⟨f,fd,m,b,h F⟩
theorem gH.has{g:Ib}{k:Nat}{a:Str}{d:Stmt}{c:List Str}{e:Sp}(D:gH K C a d c)(h:∀{f fd},En K "__init__" a d f fd->D9 P w K mg base g k f fd c e):YX P w K mg base g k C c e:=by obtain⟨f,fd,F,b,m⟩:=D;exact⟨f,fd,m,b,h F⟩
end
section
variable{X:Cx}{CX:Ib}{k:Nat}{C:Addr}{ps:List Str}{sp:Sp}{E:XK}{x m:Str}{p pos apos:PySem.Pos}{e o:Expr}{es:List Expr}{ta:TE}{t:TA}
theorem Ay(h:dI X.prog X.w X.K X.mg X.base CX k x ps sp)(i:AV k X.A)(j:Gl X x)(g:Cy CX X E)(n:PA X (e::es) t)(c:(x==("__debug__":Str))=false:=by decide)(l:starEach (e::es) X.env=(false,eval e X.env)::starEach es X.env:=by rfl)(a:(backTo pos (starEach es X.env)).any (·.1)=false:=by rfl):PE X (.Call (.Name x p) (e::es) [] pos) (Kr sp [] E t):=by obtain⟨f,fd,m,d,b,G⟩:=h;exact Qn G i j m d b .nil g n c l a
theorem AG{g:Sem Bool}(h:VN X.prog X.w X.K X.mg X.base CX k C m ps sp)(p:PE X o ta)(c:Rj X.K C)(l:AV k X.A)(i:Cy CX X E)(q:PA X (e::es) t)(a:starEach (e::es) X.env=(false,eval e X.env)::starEach es X.env:=by rfl)(d:(backTo pos (starEach es X.env)).any (·.1)=false:=by rfl)(j:eval (.Call (.Attribute o m apos) (e::es) [] pos) X.env=(do
 let ov<-eval o X.env
 standAt apos.atName
 let(f,first)<-holding [ov] (getMethod ov m g)
 callWith pos f first (backTo pos (starEach (e::es) X.env)) (backToKw pos (keywordEach [] X.env))):=by rfl):PE X (.Call (.Attribute o m apos) (e::es) [] pos) (DF C m sp [] E ta t):=by obtain⟨f,fd,n,b,G⟩:=h;exact II p c n G l b .nil i q a d j
theorem AS{a:Sem Bool}(h:VN X.prog X.w X.K X.mg X.base CX k C m ps sp)(j:PE X o ta)(c:Rj X.K C)(g:AV k X.A)(d:Cy CX X E)(e:eval (.Call (.Attribute o m apos) [] [] pos) X.env=(do
 let ov<-eval o X.env
 standAt apos.atName
 let(f,first)<-holding [ov] (getMethod ov m a)
 callWith pos f first (backTo pos (starEach [] X.env)) (backToKw pos (keywordEach [] X.env))):=by rfl):PE X (.Call (.Attribute o m apos) [] [] pos) (DF C m sp [] E ta B_):=by obtain⟨f,fd,i,b,G⟩:=h;exact ES j c i G g b .nil d e
theorem IJ(h:YX X.prog X.w X.K X.mg X.base CX k C ps sp)(g:AV (k+1) X.A)(j:Gl X x)(i:X.mg x=some (.ref C))(d:Cy CX X E)(m:PA X (e::es) t)(c:(x==("__debug__":Str))=false:=by decide)(l:starEach (e::es) X.env=(false,eval e X.env)::starEach es X.env:=by rfl)(a:(backTo pos (starEach es X.env)).any (·.1)=false:=by rfl):PE X (.Call (.Name x p) (e::es) [] pos) (VV C sp [] E t):=by obtain⟨f,fd,M,b,G⟩:=h;exact fe M G g j i b .nil d m c l a
theorem aK(h:YX X.prog X.w X.K X.mg X.base CX k C ps sp)(d:AV (k+1) X.A)(g:Gl X x)(e:X.mg x=some (.ref C))(c:Cy CX X E)(a:(x==("__debug__":Str))=false:=by decide):PE X (.Call (.Name x p) [] [] pos) (VV C sp [] E B_):=by obtain⟨f,fd,M,b,G⟩:=h;exact aJ M G d g e b .nil c a
end
section
variable{P:Program}{w:World}{K:Frag}{mg:Str->Option Value}{base:Heap}
theorem dI.mono{d:Ib}{j k:Nat}{c:List Str}{a:Sp}(h:dI P w K mg base d j x c a)(g:j<=k):dI P w K mg base d k x c a:=by obtain⟨f,fd,m,e,b,G⟩:=h;exact⟨f,fd,m,e,b,G.mono g⟩
end
abbrev FJ(k:Nat)(x:Str)(b:List Str)(a:Sp):Prop:=dI P w K mg base PM k x b a
abbrev bY(k:Nat)(C:Addr)(x:Str)(b:List Str)(a:Sp):Prop:=VN P w K mg base PM k C x b a
abbrev mK(k:Nat)(x:Str)(b:List Str)(a:Sp):Prop:=dI P w K mg base (YY true P w) k x b a
abbrev jY(k:Nat)(C:Addr)(x:Str)(b:List Str)(a:Sp):Prop:=VN P w K mg base (YY true P w) k C x b a
abbrev pk(k:Nat)(x:Str)(b:List Str)(a:Sp):Prop:=dI P w K mg base (YY false P w) k x b a
abbrev Zd(k:Nat)(C:Addr)(x:Str)(b:List Str)(a:Sp):Prop:=VN P w K mg base (YY false P w) k C x b a
abbrev nO(k:Nat)(C:Addr)(b:List Str)(a:Sp):Prop:=YX P w K mg base PM k C b a
abbrev qT(k:Nat)(C:Addr)(b:List Str)(a:Sp):Prop:=YX P w K mg base (YY true P w) k C b a
theorem Nf(a:AY):FJ 1 "on_edge" ["x","y","wide","high"] Md:=a.YE.has fun F=>XX F
theorem Ni(a:AY):FJ 1 "cell_in_order" ["order","wide","high"] Ip:=a.FD.has fun F=>OY F (C2 a.Dc)
theorem Vp(a:AY):FJ 2 "spread" ["written","wide","high","outside"] LZ:=by obtain⟨f,c,e,d,b⟩:=a.FD;exact a.TB.has fun F=>XS F e d b (C2 a.Dc) (C2 a.QU) a.BF
theorem Tg(a:AY):FJ 1 "codes_of" ["text"] J3:=a.V9.has fun F=>UW F a.hJ
inductive q7:Prop|mk(fA fdA fH fdH fS fdS fC fdC:_):VJ K mg aR aA fA fdA fH fdH->iz K mg aR fS fdS fC fdC->q7
theorem rr(a:AY):q7:=by obtain⟨s,fdA,o,j,k⟩:=a.ast;obtain⟨q,fdH,m,h,c⟩:=a.Ht;obtain⟨p,e,l,g,b⟩:=a.FI;obtain⟨r,f,n,i,d⟩:=a.Ge;exact⟨_,_,_,_,_,_,_,_,⟨a.rt,k,a.pz,a.fJ,a.Sv,a.D6,o,j,m,h,c⟩,⟨l,g,b,a.BF,a.bz,n,i,d⟩⟩
theorem Y1(a:AY):bY 1 aR "ahead" ["self"] (G8 aR):=a.Ht.has fun F=>IL F a.rt
theorem KC(a:AY):jY 3 aR "take_one_of" ["self","signs"] (DQ K aR aA):=by obtain⟨Y,Y,Y,Y,Y,Y,Y,Y,R,b⟩:=rr a;exact a.Hb.has fun F=>US F R
theorem KD(a:AY):jY 3 aR "take_end" ["self"] (G7 aR aA):=by obtain⟨Y,Y,Y,Y,Y,Y,Y,Y,R,b⟩:=rr a;exact a.JM.has fun F=>UU F R
theorem Q7(a:AY):jY 3 aR "take_name" ["self","longest"] (Fk aR aA):=by obtain⟨Y,Y,Y,Y,Y,Y,Y,Y,R,b⟩:=rr a;exact a.IT.has fun F=>Sm F R
theorem Cm(a:AY):jY 4 aR "take" ["self","word"] (J0 aR aA):=by obtain⟨Y,Y,Y,Y,Y,Y,Y,Y,R,b⟩:=rr a;exact a.Qv.has fun F=>fo F R b
theorem Nh(b:AY):jY 3 aR "choose" ["self","words"] (EH K aR aA):=by obtain⟨Y,Y,Y,Y,Y,Y,Y,Y,R,a⟩:=rr b;exact b.Ge.has fun F=>OX F R a.fs a.bs a.ms a.en a.mx
theorem Vn(a:AY):FJ 2 "text_of" ["codes"] (LV K):=by obtain⟨g,i,e,c⟩:=a.known;obtain⟨f,h,d,b⟩:=a.unknown;exact dI.mono (k:=2) (a.YB.has fun F=>XQ F e c d b a.hJ) ⋯
theorem Ez(a:AY):jY 3 aR "take_number" ["self","least","greatest"] (G6 aR aA):=by obtain⟨Y,Y,Y,Y,Y,Y,Y,Y,R,g⟩:=rr a;obtain⟨f,c,e,d,b⟩:=a.Ll;exact a.Hc.has fun F=>UT F R e d b a.m5
theorem I_(a:AY):mK 5 "read_rows" ["reader","signs","wide","high"] (Fl K aR aA):=by obtain⟨k,g,c,i,e⟩:=KC a;obtain⟨j,f,b,h,d⟩:=Cm a;exact a.TJ.has fun F=>Sn F ⟨a.rt.cl,e,i,c,d,h,b⟩ a.GG
def Z9(c:Nat):V:= .str ⟨#[c]⟩
def Ak(b:List Nat):Str:=⟨b.toArray⟩
def b2(x:Bool):Int:=if x=true then 1 else 0
def Ca:Tafl.Kind->Nat| .plain=>46| .seat=>83| .exit=>88| .wall=>35
def CB(r:Rules):List Nat:=(List.range 169).map fun c=>Ca (r.kindAt c)
def Ei(r:Rules)(a:Addr):List (Str×V):=[("wide",.int r.wide),("high",.int r.high),("ground",.str (Ak (CB r))),("beside",.ref a),("slides",.int (b2 r.slides)),("armed",.int (b2 r.armed)),("four",.int (b2 r.four)),("passed",.int (b2 r.passed)),("seat",.int r.seat),("exits",.int r.exits),("goal",.int r.goal)]
theorem IX(r a):(Ei r a).lookup ("wide":Str)=some (.int r.wide):=#v[]
theorem IY(r a):(Ei r a).lookup ("high":Str)=some (.int r.high):=#v[]
theorem DT(r a):(Ei r a).lookup ("ground":Str)=some (.str (Ak (CB r))):=#v[]
theorem EY(r a):(Ei r a).lookup ("beside":Str)=some (.ref a):=#v[]
theorem Yo(r a):(Ei r a).lookup ("slides":Str)=some (.int (b2 r.slides)):=#v[]
theorem SR(r a):(Ei r a).lookup ("armed":Str)=some (.int (b2 r.armed)):=#v[]
theorem fZ(r a):(Ei r a).lookup ("four":Str)=some (.int (b2 r.four)):=#v[]
theorem Yp(r a):(Ei r a).lookup ("passed":Str)=some (.int (b2 r.passed)):=#v[]
theorem fW(r a):(Ei r a).lookup ("seat":Str)=some (.int r.seat):=#v[]
theorem b_(r a):(Ei r a).lookup ("exits":Str)=some (.int r.exits):=#v[]
theorem fY(r a):(Ei r a).lookup ("goal":Str)=some (.int r.goal):=#v[]
theorem JW(r a):(Ei r a).lookup ("may_stand":Str)=none:=#v[]
theorem Yq(r a):(Ei r a).lookup ("may_cross":Str)=none:=#v[]
theorem Yr(r a):(Ei r a).lookup ("is_goal":Str)=none:=#v[]
def nM(r:Rules)(c:Nat):List V:=[V.int (UZ r.wide r.high c 0),V.int (UZ r.wide r.high c 1),V.int (UZ r.wide r.high c 2),V.int (UZ r.wide r.high c 3)]
structure Bf(C:Addr)(H:Hp)(a:Addr)(r:Rules):Prop where
 ex:∃dx lb,∃bs:List Addr,H a=some (.ins C dx (Ei r lb))/\H lb=some (.lst (bs.map V.ref))/\bs.length=169/\∀c b,bs[c]?=some b->H b=some (.lst (nM r c))
 Z:B0 r
 N:Of r
theorem Bf.same{r:Rules}(h:Bf C H a r)(s:Ap H H'):Bf C H' a r:=by obtain⟨⟨k,d,l,j,i,g,f⟩,Z,N⟩:=h;exact⟨⟨k,d,l,s _ _ j,s _ _ i,g,fun c b e=>s _ _ (f c b e)⟩,Z,N⟩
def Dd(H:Hp)(t:Addr)(b:List Nat)(s:Nat):Prop:=H t=some (.tup [.str (Ak b),.int (s:Nat)])
def F9(H:Hp)(l:Addr)(b:List Nat):Prop:=H l=some (.lst (b.map Z9))
theorem Bb(b:List Nat):(Ak b).cps.toList=b:=by simp[Ak]
theorem B3(b:List Nat):(Ak b).length=b.length:=by simp[Ak,Str.length]
theorem Dx{z:Str}(h:z.cps.toList=b):z=Ak b:=by subst h;simp[Ak]
theorem Dh(h:x=⟨#[n]⟩):decide (V.str ⟨#[c]⟩=V.str x)=decide (c=n):=by
 subst h;rw[y3];constructor;·intro e;have:=zT (fun v=>match v with|V.str s=>s.cps.toList|_=>[]) e;simpa using this
 ·intro e;rw[e]
theorem X7(h:c=n)(e:x=⟨#[n]⟩:=by rfl):decide (V.str ⟨#[c]⟩=V.str x)=true:=(Dh e).trans (zj h)
theorem X8(h:¬c=n)(e:x=⟨#[n]⟩:=by rfl):decide (V.str ⟨#[c]⟩=V.str x)=false:=(Dh e).trans (zo h)
theorem qP(h:¬c=n)(e:x=⟨#[n]⟩:=by rfl):(!decide (V.str ⟨#[c]⟩=V.str x))=true:=by rw[X8 h e];rfl
theorem oj(h:c=n)(e:x=⟨#[n]⟩:=by rfl):(!decide (V.str ⟨#[c]⟩=V.str x))=false:=by rw[X7 h e];rfl
theorem om(e:x=⟨#[n]⟩):(x==(⟨#[c]⟩:Str))=(c==n):=by
 subst e;rw[zZ,zP,zP];constructor;·intro z;have:=zT (fun s:Str=>s.cps.toList) z;simpa using this.symm
 ·intro z;rw[z]
theorem pb{m:Nat}{y:Str}(e:x=⟨#[n]⟩:=by rfl)(a:y=⟨#[m]⟩:=by rfl):(if false=true then !NA (V.str ⟨#[c]⟩) [V.str x,V.str y]else NA (V.str ⟨#[c]⟩) [V.str x,V.str y])=(c==n||c==m):=by rw[zb ⋯];show((x==(⟨#[c]⟩:Str)) ||((y==(⟨#[c]⟩:Str)) ||false))=_;rw[wC,om e,om a]
theorem Dm{N N0:List Str}{c sc0 a:Scope}{b:List (Str×Nat)}(e:N=N0)(d:c=sc0)(h:kF N0 sc0 a b=true):Jr N c a b:=by subst e d;exact Jm h
theorem jb(h:c<b.length):(b.map Z9)[c]?=some (V.str ⟨#[b.getD c 0]⟩):=by rw[z7,z4 h];simp[Z9,z5,z4 h]
theorem DJ(h:c<b.length):YL (b.map Z9) (c:Int)=some (V.str ⟨#[b.getD c 0]⟩):=AM (jb h)
theorem Qr{a:Type}{b:List a}{d:a}(h:c<b.length):b[c]?=some (b.getD c d):=by simp[z5,z4 h]
theorem Ik(h:c<b.length):YL (Ak b).cps.toList (c:Int)=some (b.getD c 0):=by rw[Bb];exact AM (Qr h)
theorem Nj(r:Rules):(CB r).length=169:=by simp[CB]
theorem Y4(r:Rules)(h:c<169):(CB r).getD c 0=Ca (r.kindAt c):=by simp[CB,z5,xh h]
theorem Dl(r:Rules)(h:c<169):YL (Ak (CB r)).cps.toList (c:Int)=some (Ca (r.kindAt c)):=by rw[<-Y4 r h];exact Ik (by rw[Nj];exact h)
theorem CK(r:Rules):(Ak (CB r)).length<=sizeLine:=by rw[B3,Nj];decide
theorem Qb{k:Tafl.Kind}:Ca k=88↔k= .exit:=by cases k<;>decide
theorem Lu{k:Tafl.Kind}:Ca k=83↔k= .seat:=by cases k<;>decide
theorem ea{k:Tafl.Kind}:Ca k=35↔k= .wall:=by cases k<;>decide
theorem eh{k:Tafl.Kind}:Ca k=46↔k= .plain:=by cases k<;>decide
def Xl(a:Hp)(D:Addr)(G:Nat->List V)(i:Nat)(H:Hp):Prop:=Ap a H/\H D=some (.lst (G i))
theorem IV{a:Hp}{D:Addr}{G:Nat->List V}(b:a D=none)(c:G 0=[]):Xl a D G 0 (Av a D (.lst [])):=⟨Af b,by rw[Aa,c]⟩
theorem Gn{c b:Hp}{D:Addr}{G:Nat->List V}{y:V}(k:c D=none)(h:Xl c D G i H)(g:(G i).length<sizeLine)(d:Ap H b)(e:G (i+1)=G i++[y]):∃a,b D=some (.lst a)/\a.length<sizeLine/\Xl c D G (i+1) (Av b D (.lst (a++[y]))):=by obtain⟨s,j⟩:=h;refine⟨G i,d _ _ j,g,fun l o f=>?_,by rw[Aa,e]⟩;rw[Ac (Ab f k)];exact d _ _ (s _ _ f)
theorem h_{c b:Hp}{D:Addr}{G:Nat->List V}(h:Xl c D G i H)(a:Ap H b)(e:G (i+1)=G i):Xl c D G (i+1) b:=⟨h.1.trans a,by rw[e];exact a _ _ h.2⟩
theorem AQ(H:Hp):Ap H H:=fun Y Y e=>e
theorem DI{d c:TT}{b:L2.St}{Q:Bool->Hp->Prop}(x y:Bool)(f:∀a:Bool->Hp->Prop,a x H->d b H a)(e:x=true->∀a:Bool->Hp->Prop,a y H->c b H a)(q:Q (x&&y) H):lG d c b H Q:=by refine f _ ?_;cases x with|true=>exact BI rfl (e rfl _ q) |false=>exact B8 rfl q
theorem iR{d c:TT}{b:L2.St}{Q:Bool->Hp->Prop}(x y:Bool)(f:∀a:Bool->Hp->Prop,a x H->d b H a)(e:x=false->∀a:Bool->Hp->Prop,a y H->c b H a)(q:Q (x||y) H):pU d c b H Q:=by refine f _ ?_;cases x with|true=>exact BI rfl q|false=>exact B8 rfl (e rfl _ q)
theorem HK{Q:Bool->Hp->Prop}{x y:Bool}(q:Q x H)(e:y=x):Q y H:=e▸q
theorem Ax{v:V}{a:L2.St}{Q:L2.St->Hp->Prop}(h:Q (a.set i (some v)) H):E6 i v a H Q:=h
theorem CS{t u:TS}{D:Ends}{b:L2.St}(h:t {D with nx:=fun a H'=>u D a H'} b H):LR t u D b H:=h
theorem DG{c:TT}{t u:TS}{D:Ends}{a:L2.St}(h:c a H fun b d=>if b=true then t D a d else u D a d):Zq c t u D a H:=h
theorem BN:(169:Nat)<=sizeLine:=⋯
inductive Mi(C:Addr):_|mk(a l:Addr)(r:Rules)(b:List Nat)(c:Nat):vs=[.ref a,.ref l,.int c]->Bf C H a r->F9 H l b->b.length=169->c<169->Q (.int (cJ r b c:Nat)) H->Mi C vs H Q E
def HD:Option Nat->Int|none=> -1|some c=>(c:Nat)
inductive P_(C:Addr):_|mk(a l:Addr)(r:Rules)(b:List Nat)(c:Option Nat):vs=[.ref a,.ref l,.int (HD c)]->Bf C H a r->F9 H l b->b.length=169->(∀n,c=some n->n<169)->Q (.bl (HM.stM r b c)) H->P_ C vs H Q E
inductive Ml(C:Addr):_|mk(a l:Addr)(r:Rules)(b:List Nat)(c:Option Nat):vs=[.ref a,.ref l,.int (HD c)]->Bf C H a r->F9 H l b->b.length=169->(∀n,c=some n->n<169)->Q (.bl (HM.stH r b c)) H->Ml C vs H Q E
theorem lY:Ah ["hall","cells","cell"] ["hall","cells","cell"] (Ad Wx):={}
theorem Ng(d:AY):FJ 1 "enmity" ["hall","cells","cell"] (Mi aH):=by
 refine d.cR.has fun F=>F.ok lY fun H Q E p h=>?_;obtain⟨a,l,r,b,c,rfl,⟨⟨i,e,s,g,Y,Y,Y⟩,Z,N⟩,m,o,j,k⟩:=h;exists%[AK (Ao AX (Az Eh (Al (pv 0)) (pv 2)) Ai) (Ag (Aj (Al (pv 0)))) Au,AK (Ck (Ao AX (Az Eh (Al (pv 0)) (pv 2)) Ai) (BK (Ao AX (Az AD (pv 1) (pv 2)) Ai))).pt (Ag (Aj (Al (pv 0)))) Au|Aj Ae];exists _,rfl,a,aH,i,_,_,rfl,g,d.hc.cl,d.hc.Fv,DT r e,_,rfl,_,_,_,rfl,rfl,CK r,Dl r j,rfl,_,rfl;unfold cJ at k;by_cases h1:r.kindAt c= .exit;·refine BI (X7 (n:=88) (Qb.mpr h1)) ?_;rw[h1]at k;exact⟨_,rfl,a,aH,i,_,_,rfl,g,d.hc.cl,d.hc.bA,b_ r e,k⟩
 ·refine B8 (X8 (n:=88) fun q=>h1 (Qb.mp q)) ⟨_,rfl,a,aH,i,_,_,rfl,g,d.hc.cl,d.hc.Fv,DT r e,_,rfl,_,_,_,rfl,rfl,CK r,Dl r j,rfl,_,rfl,?_⟩;by_cases h2:r.kindAt c= .seat
  ·refine BI (X7 (n:=83) (Lu.mpr h2)) ?_;rw[h2]at k;dsimp only at k;exists _,rfl,_,rfl,l,_,_,_,rfl,rfl,AI.of m,DJ (by rw[o];exact j),rfl,_,rfl;by_cases h3:b.getD c 0=46;·rw[zc h3]at k;exact BI (X7 (n:=46) h3) ⟨_,rfl,a,aH,i,_,_,rfl,g,d.hc.cl,d.hc.hR,fW r e,k⟩
   ·rw[zb h3]at k;exact B8 (X8 (n:=46) h3) k
  ·refine B8 (X8 (n:=83) fun q=>h2 (Lu.mp q)) (B8 rfl ?_);cases f:r.kindAt c with|plain=>rw[f]at k;exact k|wall=>rw[f]at k;exact k|seat=>exact absurd f h2|exit=>exact absurd f h1
theorem lT:Ah ["hall","cells","cell"] ["hall","cells","cell"] (Ad af):={}
theorem cI{r:Rules}(N:Of r)(b:List Nat)(c:Nat):cJ r b c<=3:=by
 unfold cJ;have:=N.s;have:=N.x;split;·assumption
 ·split<;>lia
 ·lia
theorem pE:∀e:Nat,e<=3->(!decide (V.int (Builtin.bitAnd (e:Int) 1)=V.int 0))=(e%2==1):=by intro e h;match e,h with|0,_=>decide+kernel|1,_=>decide+kernel|2,_=>decide+kernel|3,_=>decide+kernel
theorem pD:∀e:Nat,e<=3->(!decide (V.int (Builtin.bitAnd (e:Int) 2)=V.int 0))=(e/2%2==1):=by intro e h;match e,h with|0,_=>decide+kernel|1,_=>decide+kernel|2,_=>decide+kernel|3,_=>decide+kernel
theorem Pr(e:AY):FJ 2 "stands_against_man" ["hall","cells","cell"] (P_ aH):=by
 have o:=Ng e;refine e.G1.has fun F=>F.ok lT fun H Q E j h=>?_;obtain⟨a,l,r,b,c,rfl,i,f,g,m,k⟩:=h;exists%[AK (Ao AX (pv 2) (AB (v:= .int (-1)) rfl (C2 e.Fd) ⟨_,rfl⟩)) (Ag (Aj K5)) Au|Aj (OS (Bn AX (Az AD (pv 1) (pv 2)) Ai) (ED (Bn Hr (A9 be (Ay o j rfl Ar (#v[pv 0,pv 1,pv 2])) (AB (v:= .int 2) rfl (C2 e.Oc) ⟨_,rfl⟩)) Ae)))];exists _,rfl,rfl,_,rfl;cases c with
 |none=>exact BI ⋯ k
 |some c=>
  have d:c<169:=m c rfl;refine B8 (zo (by intro q;injection q with q;change(c:Int)= -1 at q;lia)) ⟨_,rfl,_,rfl,l,_,_,_,rfl,rfl,AI.of f,DJ (by rw[g];exact d),rfl,_,rfl,?_⟩;unfold HM.stM at k;dsimp only at k;by_cases h1:b.getD c 0=104;·refine BI (X7 (n:=104) h1) ?_;rw[h1]at k;exact k
  ·refine B8 (X8 (n:=104) h1) ⟨_,rfl,_,rfl,_,rfl,a,l,r,b,c,rfl,i,f,g,d,_,_,rfl,rfl,rfl,?_⟩;rw[zL.mpr h1,uH]at k;rw[<-pD _ (cI i.N b c)]at k;exact k
theorem lW:Ah ["hall","cells","cell"] ["hall","cells","cell"] (Ad OK):={}
theorem kH{x:Bool}:decide (V.int (b2 x)=V.int 1)=x:=by cases x<;>decide
theorem kI{x:Bool}:decide (V.int (b2 x)=V.int 0)=!x:=by cases x<;>decide
theorem QD(f:AY):FJ 2 "stands_against_hunter" ["hall","cells","cell"] (Ml aH):=by
 have A:=Ng f;refine f.E_.has fun F=>F.ok lW fun H Q E w h=>?_;obtain⟨a,l,r,b,c,rfl,p,m,o,x,k⟩:=h;obtain⟨z,u,B,y,Y,Y,Y⟩:=p.ex;exists%[AK (Ao AX (pv 2) (AB (v:= .int (-1)) rfl (C2 f.Fd) ⟨_,rfl⟩)) (Ag (Aj K5)) Au,AK (hI (Ao AX (Az AD (pv 1) (pv 2)) Ai) (ay (Ck (Ao AX (Az AD (pv 1) (pv 2)) Ai) (BK (Ao AX (Al (pv 0)) Ae))).pt)).pt (Ag (Aj K5)) Au|Aj (Bn Hr (A9 be (Ay A w rfl Ar (#v[pv 0,pv 1,pv 2])) (AB (v:= .int 1) rfl (C2 f.Jk) ⟨_,rfl⟩)) Ae)];exists _,rfl,rfl,_,rfl;cases c with
 |none=>exact BI ⋯ k
 |some c=>
  have e:c<169:=x c rfl;refine B8 (zo (by intro q;injection q with q;change(c:Int)= -1 at q;lia)) ?_;unfold HM.stH at k;dsimp only at k;have d:b.getD c 0≠109->(b.getD c 0==75&&r.armed)=false->PR (Rw pZ (Rw (W4 fun i j=> .int (Builtin.bitAnd i j)) (Kr (Mi aH) [] E0 (Bc (Bi 0) (Bc (Bi 1) (Bc (Bi 2) B_)))) (tC (.int 1))) (tC (.int 0))) {nx:=fun Y H'=>Q .Bz H',rt:=Q} [some (.ref a),some (.ref l),some (.int (c:Nat))] H:=fun t s=>by exists _,rfl,_,rfl,_,rfl,a,l,r,b,c,rfl,p,m,o,e,_,_,rfl,rfl,rfl;rw[zL.mpr t,uH,s,uH]at k;rw[<-pE _ (cI p.N b c)]at k;exact k
  exists _,rfl,_,rfl,l,_,_,_,rfl,rfl,AI.of m,DJ (by rw[o];exact e),rfl,_,rfl;by_cases h1:b.getD c 0=109;·refine BI (X7 (n:=109) h1) (BI rfl ?_);rw[h1]at k;exact k
  ·refine B8 (X8 (n:=109) h1) ⟨_,rfl,_,rfl,l,_,_,_,rfl,rfl,AI.of m,DJ (by rw[o];exact e),rfl,_,rfl,?_⟩;by_cases h3:b.getD c 0=75;·refine BI (X7 (n:=75) h3) ⟨_,rfl,a,aH,z,_,_,rfl,y,f.hc.cl,f.hc.U_,SR r u,rfl,_,rfl,?_⟩;cases g:r.armed with|true=>refine BI rfl ?_;rw[h3,g]at k;exact k|false=>exact B8 rfl (d h1 (by rw[g,vm]))
   ·exact B8 (X8 (n:=75) h3) (B8 rfl (d h1 (by rw[zL.mpr h3,xM])))
inductive O2(C:Addr):_|mk(a l:Addr)(r:Rules)(b:List Nat)(c d m:Nat):vs=[.ref a,.ref l,.int c,.int d,.str ⟨#[m]⟩]->Bf C H a r->F9 H l b->b.length=169->r.isCell c=true->d<4->(∀H',Ap H H'->Q (.bl (Na r b m d c)) H')->O2 C vs H Q E
theorem bu{r:Rules}(Z:B0 r){d:Nat}(a:d<4)(h:r.isCell c=true):UZ r.wide r.high c d=HD (r.next d c):=by rw[HM.fy Z a h];cases r.next d c<;>rfl
theorem MJ{r:Rules}(Z:B0 r){d:Nat}(a:d<4)(h:r.isCell c=true):(nM r c)[d]?=some (V.int (HD (r.next d c))):=by rw[<-bu Z a h];match d,a with|0,_=>rfl|1,_=>rfl|2,_=>rfl|3,_=>rfl
theorem MI{r:Rules}(Z:B0 r){d:Nat}(h:r.isCell c=true):∀n,r.next d c=some n->n<169:=fun n e=>HM.DK Z h e
abbrev qC:List Str:=["hall","cells","cell","direction","mover","behind","around"]
theorem eD:Ah qC ["hall","cells","cell","direction","mover"] (Ad M1):={}
theorem SW:bootBuiltins "all"=some (.builtin "all"):=∎
theorem Ta(j:AY):FJ 3 "is_taken" ["hall","cells","cell","direction","mover"] (O2 aH):=by
 refine j.V8.has fun F=>F.ok eD fun H Q E J h=>?_;obtain⟨a,l,r,b,c,d,m,rfl,p,x,z,y,W,k⟩:=h;obtain⟨P,A,X,O,B,N,M⟩:=p.ex;have s:c<169:=p.Z.lt y;obtain⟨G,w⟩:∃G,X[c]?=some G:=⟨_,z4 (by rw[N];exact s)⟩;have f:=M c G w;exists%[An (i:=5) eD.nd (Az AD (Az AD (Al (pv 0)) (pv 2)) (pv 3)),AK (Ao Hr (pv 4) Ai) (Ag (Aj (MC (Bn AX (Az AD (pv 1) (pv 2)) Ai) (ED (Ay (QD j) J rfl Ar (#v[pv 0,pv 1,pv 5])))))) Au,AK (Ck (Ao AX (Az AD (pv 1) (pv 2)) Ai) (BK (Ao AX (Al (pv 0)) Ae))).pt (Ag (Aj (AN (kx rfl) j.m6 SW (#v[F_ (own:=[("around",6)]) rfl eD.nd (BL (Az AD (Al (pv 0)) (pv 2))) (Dm (N0:=qC) (sc0:=Ad M1) rfl rfl ∎) (fun Y Y Y Y Y=>Aw (i:=6) eD.nd) (fun Y Y Y Y Y=>Cg) (fun Y Y Y Y Y=>Ay (Pr j) J rfl Ar (#v[pv 0,pv 1,pv 6]))])))) Au|Aj (MC (Bn EU (Az AD (pv 1) (pv 2)) (B2 (#v[Ai,Ai])) #v[]) (ED (Ay (Pr j) J rfl Ar (#v[pv 0,pv 1,pv 5]))))];exists _,rfl,a,aH,P,_,_,rfl,O,j.hc.cl,j.hc.GK,EY r A,_,rfl,A,_,_,_,rfl,rfl,AI.of B,AM (by rw[z7,w];rfl),_,rfl,G,_,_,_,rfl,rfl,AI.of f,AM (MJ p.Z W y),_,rfl,rfl,_,rfl;unfold Na at k;by_cases hm:m=104
 ·refine B8 (oj (n:=104) hm) ?_;rw[zb (fun q=>q hm)]at k;have u:¬(b.getD c 0=75/\r.four=true)->PR (Zv (Rw (oP K false) (Rw (ax K) (Bi 1) (Bi 2)) (Xz (Bc (tC (.str "m")) (Bc (tC (.str "K")) B_)))) (Kr (P_ aH) [] E0 (Bc (Bi 0) (Bc (Bi 1) (Bc (Bi 5) B_))))) {nx:=fun Y H'=>Q .Bz H',rt:=Q} [some (.ref a),some (.ref l),some (.int (c:Nat)),some (.int (d:Nat)),some (.str ⟨#[m]⟩),some (.int (HD (r.next d c))),none] H:=fun q=>by
   rw[zb q]at k;refine⟨_,rfl,_,rfl,l,_,_,_,rfl,rfl,AI.of x,DJ (by rw[z];exact s),K0,fun g U=>⟨g,_,rfl,.inr (.of Aa),rfl,rfl,_,rfl,?_⟩⟩;have T:(if false=true then !NA (V.str ⟨#[b.getD c 0]⟩) [V.str "m",V.str "K"]else NA (V.str ⟨#[b.getD c 0]⟩) [V.str "m",V.str "K"])=(b.getD c 0==109||b.getD c 0==75):=pb;have I:=Af (o:= .tup [V.str "m",V.str "K"]) U;by_cases h1:(b.getD c 0==109||b.getD c 0==75)=true;·refine BI (T.trans h1) ⟨_,rfl,_,rfl,_,rfl,a,l,r,b,r.next d c,rfl,p.same I,I _ _ x,z,MI p.Z y,?_⟩;have:=k _ I;rw[h1,wB]at this;exact this
   ·rw[y4]at h1;refine B8 (T.trans h1) ?_;have:=k _ I;rw[h1,xM]at this;exact this
  exists _,rfl,_,rfl,l,_,_,_,rfl,rfl,AI.of x,DJ (by rw[z];exact s),rfl,_,rfl;by_cases h3:b.getD c 0=75
  ·refine BI (X7 (n:=75) h3) ⟨_,rfl,a,aH,P,_,_,rfl,O,j.hc.cl,j.hc.hW,fZ r A,rfl,_,rfl,?_⟩;by_cases hf:r.four=true
   ·refine BI (kH.trans hf) ?_;rw[zc ⟨h3,hf⟩]at k;refine⟨_,rfl,a,aH,P,_,_,rfl,O,j.hc.cl,j.hc.GK,EY r A,_,rfl,A,_,_,_,rfl,rfl,AI.of B,AM (by rw[z7,w];rfl),G,rfl,⟨_,AI.of f⟩,fun D S=>?_⟩;let t:List Bool:=[HM.stM r b (r.next 0 c),HM.stM r b (r.next 1 c),HM.stM r b (r.next 2 c),HM.stM r b (r.next 3 c)];refine C_ (xs:=nM r c) (Xl H D fun i=>(t.take i).map V.bl) (IV S rfl) (fun i R Y q=>q.1.seq (AI.of f)) ?_ ?_;·rintro i v R L q;have C:i<4:=(z8.mp L).1;rw[MJ p.Z C y]at L;cases L;refine⟨rfl,?_⟩;unfold HF;cbv;rw[zc rfl];refine⟨_,rfl,_,rfl,_,rfl,a,l,r,b,r.next i c,rfl,p.same q.1,q.1 _ _ x,z,MI p.Z y,Gn S q (by rw[z3,zO];exact y2 (xH _ _) (by show 4<sizeLine;decide)) (AQ _) ?_⟩;match i,C with|0,_=>rfl|1,_=>rfl|2,_=>rfl|3,_=>rfl
    ·rintro R q;exists D,t,rfl,AI.of q.2;have:=k R q.1;have e:t.all id=(HM.stM r b (r.next 0 c)&&HM.stM r b (r.next 1 c)&&HM.stM r b (r.next 2 c)&&HM.stM r b (r.next 3 c)):=by simp[t,qw]
     rw[e];exact this
   ·rw[y4]at hf;exact B8 (kH.trans hf) (u (fun q=>by rw[hf]at q;exact absurd q.2 ⋯))
  ·exact B8 (X8 (n:=75) h3) (B8 rfl (u (fun q=>h3 q.1)))
 ·refine BI (qP (n:=104) hm) ?_;rw[zc hm]at k;exists _,rfl,_,rfl,l,_,_,_,rfl,rfl,AI.of x,DJ (by rw[z];exact s),rfl,_,rfl;by_cases h1:b.getD c 0=104;·refine BI (X7 (n:=104) h1) ⟨_,rfl,_,rfl,_,rfl,a,l,r,b,r.next d c,rfl,p,x,z,MI p.Z y,?_⟩;have:=k _ (AQ _);rw[h1]at this;exact this
  ·refine B8 (X8 (n:=104) h1) ?_;have:=k _ (AQ _);rw[zL.mpr h1,xM]at this;exact this
def nV(l:List Nat):List V:=l.map fun c=>V.int (c:Nat)
def H_(H:Hp)(m:Addr)(b a:Nat):Prop:=H m=some (.tup [.int (b:Nat),.int (a:Nat)])
inductive Ox(C:Addr):_|mk(a l:Addr)(r:Rules)(b:List Nat)(t:Nat):vs=[.ref a,.ref l,.int t]->Bf C H a r->F9 H l b->b.length=169->r.isCell t=true->(∀H' q,Ap H H'->H q=none->H' q=some (.lst (nV (DB r b t)))->Q (.ref q) H')->Ox C vs H Q E
inductive Wa:_|mk(p m:Addr)(b:List Nat)(s m1 m2:Nat):vs=[.ref p,.ref m]->Dd H p b s->H_ H m m1 m2->b.length=169->m1<169->m2<169->(∀H' l,Ap H H'->H l=none->F9 H' l (DS b m1 m2)->Q (.ref l) H')->Wa vs H Q E
def Y_(r:Rules)(b:List Nat)(t d:Nat):Option Nat:=match r.next d t with|none=>none|some c=>if Na r b (b.getD t 0) d c=true then some c else none
theorem Uy(r:Rules)(b:List Nat)(t:Nat):DB r b t=if b.getD t 0=75/\r.armed=false then[]else(List.range 4).filterMap (Y_ r b t):=rfl
theorem cz{a b:Type}(f:a->Option b):∀l:List a,(l.filterMap f).length<=l.length:=fun l=>List.length_filterMap_le f l
theorem L9{a:Type}(f:Nat->Option a)(i:Nat):(List.range (i+1)).filterMap f=(List.range i).filterMap f++(f i).toList:=by rw[yg,List.filterMap_append];cases h:f i<;>simp[h]
abbrev ro:List Str:=["hall","cells","end","mover","taken","direction","cell"]
theorem ZC:Ah ro ["hall","cells","end"] (Ad RG):={}
theorem KA(j:AY):FJ 4 "taken_at" ["hall","cells","end"] (Ox aH):=by
 refine j.V5.has fun F=>F.ok ZC fun H Q E S h=>?_;obtain⟨a,l,r,b,e,rfl,w,L,M,I,k⟩:=h;obtain⟨R,C,W,N,D,K,J⟩:=w.ex;have s:e<169:=w.Z.lt I;obtain⟨x,u⟩:∃x,W[e]?=some x:=⟨_,z4 (by rw[K];exact s)⟩;have t:=J e x u;exists%[An (i:=3) ZC.nd (Az AD (pv 1) (pv 2)),AK (Ck (Ao AX (pv 3) Ai) (BK (Ao AX (Al (pv 0)) Ae))).pt (Ag (Aj (AE Cd))) Au,An (i:=4) ZC.nd (AE Cd),BB y0 rfl (ER (by rfl) j.GG (#v[Ae])) (Aw (i:=5) ZC.nd) (%[An (i:=6) ZC.nd (Az AD (Az AD (Al (pv 0)) (pv 2)) (pv 5)) |AK (Ck (Ao Hr (pv 6) (AB (v:= .int (-1)) (by rfl) (C2 j.Fd) ⟨_,rfl⟩)) (BK (BS (Ay (Ta j) S (by rfl) Ar (#v[pv 0,pv 1,pv 6,pv 5,pv 3]))))).pt (Ag (A2 (B4 zK zW zY By (pv 4) (#v[pv 6])))) Au]) |Aj (pv 4)];exists _,rfl,_,rfl,l,_,_,_,rfl,rfl,AI.of L,DJ (by rw[M];exact s);rw[Uy]at k;refine Ax ?_;cbv;refine CS (DG (DI (decide (b.getD e 0=75)) (!r.armed) (fun X q=>⟨_,rfl,rfl,_,rfl,HK q (Dh rfl)⟩) (fun Y X q=>⟨_,rfl,a,aH,R,_,_,rfl,N,j.hc.cl,j.hc.U_,SR r C,rfl,_,rfl,HK q kI⟩) ?_));by_cases h1:b.getD e 0=75/\r.armed=false;·refine BI (by rw[h1.2,zj h1.1];rfl) ?_;rw[zc h1]at k;exact⟨zx _,fun q m=>k _ q (Af m) m Aa⟩
 ·refine B8 (by cases U:r.armed<;>simp_all) ?_;rw[zb h1]at k;refine⟨zx _,fun q m=>?_⟩;refine⟨4,rfl,⋯,⋯,GX (n:=4) (fun i y H'=>E2 fun B A=>A3 (y=[some (.ref a),some (.ref l),some (.int (e:Nat)),some (.str ⟨#[b.getD e 0]⟩),some (.ref q),B,A]) (Ap H H') (H' q=some (.lst (nV ((List.range i).filterMap (Y_ r b e)))))) ⟨none,none,rfl,Af m,Aa⟩ ?_ ?_⟩
  ·rintro i y H' G ⟨B,A,rfl,f,d⟩;have O:(0:Int)+(i:Int)=(i:Int):=∅;exists _,rfl,a,aH,R,_,_,rfl,f _ _ N,j.hc.cl,j.hc.GK,EY r C,_,rfl,C,_,_,_,rfl,rfl,AI.of (f _ _ D),AM (by rw[z7,u];rfl),_,rfl,x,_,_,_,rfl,rfl,AI.of (f _ _ t),at_of O (MJ w.Z G I),_,rfl,rfl,_,rfl;cases g:r.next i e with
   |none=>refine B8 ⋯ (B8 rfl ⟨_,_,rfl,f,?_⟩);rw[L9,show Y_ r b e i=none by unfold Y_;rw[g]];simpa using d
   |some c=>
    have T:r.isCell c=true:=BD w.Z I g;refine BI (by
     have:¬V.int (HD (some c))=V.int (-1):=by intro z;injection z with z;change(c:Int)= -1 at z;lia
     rw[zo this];rfl) ⟨_,rfl,_,rfl,_,rfl,_,rfl,_,rfl,a,l,r,b,c,i,b.getD e 0,?_,w.same f,f _ _ L,M,T,G,fun H2 p=>⟨_,rfl,?_⟩⟩;·rw[O];rfl
    ·by_cases ht:Na r b (b.getD e 0) i c=true
     ·refine BI ht ⟨_,rfl,.inl ⟨rfl,_,AI.of (p _ _ d)⟩,_,rfl,q,_,_,rfl,rfl,p _ _ d,?_,?_⟩;·unfold nV;rw[z3];exact y2 (cz _ _) (by rw[yj];exact ue G (by show 4<sizeLine;decide))
      ·exists _,_,rfl,fun Z o P=>?_;·rw[Ac (Ab P m)];exact p _ _ (f _ _ P)
       ·rw[Aa,L9,show Y_ r b e i=some c by unfold Y_;rw[g];exact zc ht];unfold nV;rw[zu];rfl
     ·rw[y4]at ht;refine B8 ht ⟨_,_,rfl,f.trans p,?_⟩;rw[L9,show Y_ r b e i=none by unfold Y_;rw[g];exact zb (by rw[ht];decide)];simpa using p _ _ d
  ·rintro y H' ⟨B,A,rfl,f,d⟩;exact⟨_,rfl,k H' q f m d⟩
abbrev tu:List Str:=["position","move","cells"]
theorem lS:Ah tu ["position","move"] (Ad ZR):={}
theorem Q3:bootBuiltins "list"=some (.type "list"):=∎
theorem Pq(j:AY):FJ 1 "cells_moved" ["position","move"] Wa:=by
 refine j.N_.has fun F=>F.ok lS fun H Q E u h=>?_;obtain⟨p,m,b,t,o,n,rfl,q,a,d,g,r,k⟩:=h;exists%[An (i:=2) lS.nd (JG (VD rfl) (by rfl) j.jF Q3 (#v[Az Be (pv 0) Ae])),HL (Az AD (pv 2) (Az Be (pv 1) Ae)) (HN (pv 2) (Az Be (pv 1) Ae) set_list),HL Ai (HN (pv 2) (Az Be (pv 1) Ae) set_list) |Aj (pv 2)];refine⟨_,rfl,p,_,_,_,rfl,rfl,.of q,rfl,_,rfl,by rw[show(Ak b).cps.size=b.length by simp[Ak],d];decide,fun l c=>?_⟩;have f:Ap H (Av H l (.lst (b.map Z9))):=Af c;have s:L2.signs (Ak b)=b.map Z9:=by unfold L2.signs;rw[Bb];rfl
 rw[s];have e:m≠l:=Ab a c;refine⟨_,rfl,_,rfl,m,_,_,_,rfl,rfl,.of (f _ _ a),rfl,l,_,_,_,rfl,rfl,AI.of Aa,DJ (by rw[d];exact g),_,rfl,_,rfl,m,_,_,_,rfl,rfl,.of (f _ _ a),rfl,l,_,_,_,rfl,rfl,Aa,by rw[z3,d];exact Ex r,?_⟩;rw[DH];refine⟨_,rfl,_,rfl,m,_,_,_,rfl,rfl,.of (by rw[Ac e];exact a),rfl,l,_,_,_,rfl,rfl,Aa,by rw[yP,z3,d];exact Ex g,?_⟩;rw[DH];refine⟨_,rfl,k _ l (Af c) c ?_⟩;show _=some (HO.lst ((DS b o n).map Z9));rw[Aa];unfold DS;rw[wK,wK];rfl
inductive Wj(C:Addr):_|mk(a p m:Addr)(r:Rules)(b:List Nat)(s m1 m2:Nat):vs=[.ref a,.ref p,.ref m]->Bf C H a r->Dd H p b s->H_ H m m1 m2->b.length=169->m1<169->r.isCell m2=true->s<=1->(∀H' t,Ap H H'->H t=none->Dd H' t (NB r b (m1,m2)) (1-s)->Q (.ref t) H')->Wj C vs H Q E
inductive Ow(C:Addr):_|mk(a p m:Addr)(r:Rules)(b:List Nat)(s m1 m2:Nat):vs=[.ref a,.ref p,.ref m]->Bf C H a r->Dd H p b s->H_ H m m1 m2->b.length=169->m1<169->r.isCell m2=true->(∀H' l,Ap H H'->H l=none->H' l=some (.lst (nV ((List.range 192).filter fun c=>(DB r (DS b m1 m2) m2).contains c)))->Q (.ref l) H')->Ow C vs H Q E
theorem Vg(b:List Nat):Txt.join ("":Str) (b.map fun c=>(⟨#[c]⟩:Str))=Ak b:=Dx (by rw[TL.join_eq];show TL.tl (Str.join _ _)=_;rw[TL.Es,zG];exact GU _)
theorem bR(b:List Nat)(h:b.length=169):((b.map fun c=>(⟨#[c]⟩:Str)).map Str.length).sum+(b.map fun c=>(⟨#[c]⟩:Str)).length*("":Str).length<=sizeLine:=by
 rw[zG,z3];have e:∀a:List Nat,(a.map (Str.length∘fun u=>(⟨#[u]⟩:Str))).sum=a.length:=by intro a;induction a with|nil=>rfl|cons u b d=>rw[zH,vI,d,zm];show 1+_=_;lia
 rw[e,h];show 169+169*0<=_;exact BN
theorem L6{c a:Nat}(h:b.length=169):(DS b c a).length=169:=by unfold DS;rw[yP,yP,h]
theorem cV(b l:List Nat)(c:Nat):TV b (l++[c])=(TV b l).set c 46:=by unfold TV;rw[uW];rfl
theorem Ux{r:Rules}(Z:B0 r){t:Nat}(g:r.isCell t=true):(DB r b t).Nodup:=by
 rw[Uy];split;·exact wa
 ·have:∀i,i<=4->((List.range i).filterMap (Y_ r b t)).Nodup:=by
   intro i;induction i with
   |zero=>intro Y;exact wa
   |succ i a=>
    intro o;rw[L9];cases h:Y_ r b t i with
    |none=>rw[Option.toList_none,zR];exact a ∅
    |some c=>
     rw[xP,yZ];refine⟨a ∅,by simp,fun x k y f z=>?_⟩;subst z;rw[zB]at f;subst f;obtain⟨j,l,e⟩:=yA.mp k;rw[zC]at l;have nx:∀d,Y_ r b t d=some x->r.next d t=some x:=fun d e=>by unfold Y_ at e;cases q:r.next d t with|none=>rw[q]at e;cases e|some z=>rw[q]at e;dsimp only at e;split at e<;>simp_all
     have n:=MH Z (d:=i) ∅ g (nx i h);have m:=MH Z (d:=j) ∅ g (nx j e);have:=HM.Dir.apart ∅ ∅ n m;lia
  exact this 4 (ze _)
abbrev v8:List Str:=["hall","position","move","cells","cell"]
theorem jr:Ah v8 ["hall","position","move"] (Ad ag):={}
theorem Y2(M:AY):FJ 5 "position_after" ["hall","position","move"] (Wj aH):=by
 refine M.Kh.has fun F=>F.ok jr fun H Q E P h=>?_;obtain⟨a,p,m,r,b,B,f,d,rfl,J,R,S,y,V,L,Z,k⟩:=h;exists%[An (i:=3) jr.nd (Ay (Pq M) (P.mono ⋯) rfl Ar (#v[pv 1,pv 2])),BB y0 rfl (BL (Ay (KA M) P rfl Ar (#v[pv 0,pv 3,Az Be (pv 2) Ae]))) (Aw (i:=4) jr.nd) (Ag (HL Ai (HN (pv 3) (pv 4) set_list))) |Aj (B2 (#v[B4 yc xw xt GN Ai (#v[pv 3]),A9 Eb Ae (Az Be (pv 1) Ae)]))];have K:d<169:=J.Z.lt L;refine⟨_,rfl,_,rfl,p,m,b,B,f,d,rfl,R,S,y,V,K,fun H1 l C U I=>?_⟩;refine⟨_,rfl,_,rfl,_,rfl,m,_,_,_,rfl,rfl,.of (C _ _ S),rfl,a,l,r,_,d,rfl,J.same C,I,L6 y,L,fun H2 q N T s=>?_⟩;have D:l≠q:=Ab I T;refine⟨q,rfl,⟨_,AI.of s⟩,Gy (xs:=nV (DB r (DS b f d) d)) (fun i x H'=>∃A,A4 (x=[some (.ref a),some (.ref p),some (.ref m),some (.ref l),A]) (Ap H H') (H' q=some (.lst (nV (DB r (DS b f d) d)))) (F9 H' l (TV (DS b f d) ((DB r (DS b f d) d).take i)))) ⟨none,rfl,C.trans N,s,N _ _ I⟩ (fun i x H' Y ⟨_,_,_,z,_⟩=>AI.of z) ?_ ?_⟩
 ·rintro i v x H' G ⟨A,rfl,n,u,g⟩;obtain⟨c,w,rfl⟩:∃c,(DB r (DS b f d) d)[i]?=some c/\v= .int (c:Nat):=by unfold nV at G;rw[z7,zy]at G;obtain⟨c,e,rfl⟩:=G;exact⟨c,e,rfl⟩
  have j:c<169:=PQ J.Z L (zf w);refine⟨_,rfl,_,rfl,l,_,_,c,rfl,rfl,g,by rw[z3,LB,L6 y];exact Ex j,_,rfl,fun b' o e=>?_,by rw[Ac (zN D)];exact u,?_⟩;·rw[Ac (Ab e U)];exact n _ _ e
  ·show _=some (HO.lst _);rw[Aa,yi,w,xP,cV,wK];rfl
 ·rintro x H' ⟨A,rfl,n,u,g⟩;have X:(nV (DB r (DS b f d) d)).length=(DB r (DS b f d) d).length:=by unfold nV;rw[z3]
  rw[X,y1]at g;have W:(TV (DS b f d) (DB r (DS b f d) d)).length=169:=by rw[LB,L6 y]
  refine⟨rfl,_,rfl,_,l,(TV (DS b f d) (DB r (DS b f d) d)).map fun c=>(⟨#[c]⟩:Str),rfl,rfl,.inl (.of (by rw[show H' l=_ from g,zG];rfl)),bR _ W,_,rfl,p,_,_,_,rfl,rfl,.of (n _ _ R),rfl,_,_,rfl,rfl,K0,fun t O=>?_⟩;refine k _ t (n.trans (Af O)) (n.free O) ?_;show Av _ t _ t=_;rw[Aa,Vg];rw[show(1:Int)-(B:Int)=((1-B:Nat):Int) by lia];rfl
abbrev rl:List Str:=["hall","position","move"]
theorem ow:Ah rl ["hall","position","move"] (Ad RF):={}
theorem Gu:bootBuiltins "sorted"=some (.builtin "sorted"):=∎
theorem SX(t:AY):FJ 5 "taken_by" ["hall","position","move"] (Ow aH):=by
 refine t.V4.has fun F=>F.ok ow fun H Q E z h=>?_;obtain⟨a,p,m,r,b,C,y,g,rfl,o,I,A,B,K,s,k⟩:=h;have v:g<169:=o.Z.lt s;exists Ag (Aj (AN P7 t.Su Gu (#v[Ay (KA t) z rfl Ar (#v[pv 0,Ay (Pq t) (z.mono ⋯) rfl Ar (#v[pv 1,pv 2]),Az Be (pv 2) Ae])])));refine⟨_,rfl,_,rfl,_,rfl,p,m,b,C,y,g,rfl,I,A,B,K,v,fun O l j M J=>?_⟩;refine⟨_,rfl,m,_,_,_,rfl,rfl,.of (j _ _ A),rfl,a,l,r,_,g,rfl,o.same j,J,L6 B,s,fun N q w L u=>?_⟩;refine⟨q,(DB r (DS b y g) g).map fun(c:Nat)=>(c:Int),rfl,AI.of (by rw[u];unfold nV;rw[zG];rfl),?_,fun ns D f d i=>?_⟩
 ·rw[z3,Uy];split;·decide
  ·exact y2 (cz _ _) (by rw[yj];decide)
 ·have e:=Hi (n:=192) f d (Ux o.Z s) fun x G=>by have:=PQ o.Z s G;lia
  subst e;refine k _ D ((j.trans w).trans (Af i)) ((j.trans w).free i) ?_;rw[Aa,zG];rfl
theorem QY:StrLaws.At (Ak b) ⟨#[c]⟩ (Ak b).length i↔b[i]?=some c:=by
 unfold StrLaws.At;rw[StrLaws.subAt_eq,B3,Bb];show i+1<=b.length/\((b.drop i).take 1==[c])=true↔_;constructor;·rintro⟨e,a⟩;have:i<b.length:=∅;rw[z4 this];rw[yf this,xE,wI]at a;have d:=eq_of_beq a;injection d with d;rw[d]
 ·intro h;obtain⟨e,a⟩:=z8.mp h;refine⟨∅,?_⟩;rw[yf e,a,xE,wI,xG]
theorem So(b:List Nat)(c:Nat):(Builtin.Str.occurrences (Ak b) ⟨#[c]⟩ 0 (Ak b).length 1=[]/\∀i:Nat,¬b[i]?=some c)\/∃(i:Nat)(r:List Nat),Builtin.Str.occurrences (Ak b) ⟨#[c]⟩ 0 (Ak b).length 1=i::r/\b[i]?=some c/\∀k:Nat,k<i->¬b[k]?=some c:=by
 rcases StrLaws.occ_head (Ak b) ⟨#[c]⟩ 1 (ze _)with⟨d,a⟩ |⟨i,r,d,a,f⟩;·exact .inl ⟨d,fun i q=>a i (QY.mpr q)⟩
 ·exact .inr ⟨i,r,d,QY.mp a,fun k e q=>f k e (QY.mpr q)⟩
theorem Kc(B:AZ b):Txt.find (Ak b) "K"=if Bv b=TAKEN then-1 else((Bv b:Nat):Int):=by
 unfold Txt.find;rcases So b 75 with⟨g,a⟩ |⟨i,r,g,a,Y⟩;·rw[show(Builtin.Str.occurrences (Ak b) "K" 0 (Ak b).length 1)=[]from g,zc];rw[B.CG];intro c j e;refine a c ?_;rw[Qr (d:=0) (by rw[B.len];exact j),e]
 ·rw[show(Builtin.Str.occurrences (Ak b) "K" 0 (Ak b).length 1)=i::r from g];obtain⟨h,e⟩:=z8.mp a;have f:i<169:=by rw[<-B.len];exact h
  have:=(B.Bg f).mpr (by rw[z5,a];rfl);rw[this,zb];intro q;have:i=255:=q;lia
def WJ(r:Rules)(p c:Nat):Bool:=if p=75 then !decide (r.kindAt c= .wall)else decide (r.kindAt c= .plain)
def hY(r:Rules)(p c:Nat):Bool:=(decide (r.kindAt c= .seat)&&r.passed) ||WJ r p c
inductive Mf(C:Addr):_|mk(a:Addr)(r:Rules)(p c:Nat):vs=[.ref a,.str ⟨#[p]⟩,.int c]->Bf C H a r->c<169->Q (.bl (WJ r p c)) H->Mf C vs H Q E
inductive Mg(C:Addr):_|mk(a:Addr)(r:Rules)(p c:Nat):vs=[.ref a,.str ⟨#[p]⟩,.int c]->Bf C H a r->c<169->Q (.bl (hY r p c)) H->Mg C vs H Q E
inductive R8(C:Addr):_|mk(a:Addr)(r:Rules)(c:Nat):vs=[.ref a,.int c]->Bf C H a r->c<169->(∀H',Ap H H'->Q (.bl (r.onGoal c)) H')->R8 C vs H Q E
inductive O6(C:Addr):_|mk(a p:Addr)(r:Rules)(b:List Nat)(s:Nat):vs=[.ref a,.ref p]->Bf C H a r->Dd H p b s->AZ b->(∀H',Ap H H'->Q (.int (r.ended (Aq b s):Nat)) H')->O6 C vs H Q E
abbrev nZ:List Str:=["self","piece","cell"]
theorem o5:Ah nZ ["self","piece","cell"] (Ad OG):={}
theorem Fx(b:AY):bY 1 aH "may_stand" nZ (Mf aH):=by
 refine b.K_.has fun F=>F.ok o5 fun H Q E q h=>?_;obtain⟨a,r,p,c,rfl,o,f,k⟩:=h;obtain⟨i,d,s,g,j,m,l⟩:=o.ex;exists%[AK (Ao AX (pv 1) Ai) (Ag (Aj (Bn Hr (Az Eh (Al (pv 0)) (pv 2)) Ai))) Au|Aj (Bn AX (Az Eh (Al (pv 0)) (pv 2)) Ai)];exists _,rfl,rfl,_,rfl;unfold WJ at k;by_cases hp:p=75;·rw[zc hp]at k;refine BI (X7 (n:=75) hp) ⟨_,rfl,a,aH,i,_,_,rfl,g,b.hc.cl,b.hc.Fv,DT r d,_,rfl,_,_,_,rfl,rfl,CK r,Dl r f,rfl,?_⟩;have e:(!decide (V.str ⟨#[Ca (r.kindAt c)]⟩=V.str "#"))=!decide (r.kindAt c= .wall):=zT Bool.not ((Dh (n:=35) rfl).trans (y3.mpr ea));rw[<-e]at k;exact k
 ·rw[zb hp]at k;refine B8 (X8 (n:=75) hp) ⟨_,rfl,a,aH,i,_,_,rfl,g,b.hc.cl,b.hc.Fv,DT r d,_,rfl,_,_,_,rfl,rfl,CK r,Dl r f,rfl,?_⟩;have e:decide (V.str ⟨#[Ca (r.kindAt c)]⟩=V.str ".")=decide (r.kindAt c= .plain):=(Dh (n:=46) rfl).trans (y3.mpr eh);rw[<-e]at k;exact k
theorem o6:Ah nZ ["self","piece","cell"] (Ad OH):={}
theorem QB(b:AY):bY 2 aH "may_cross" nZ (Mg aH):=by refine b.La.has fun F=>F.ok o6 fun H Q E l h=>?_;obtain⟨a,r,p,c,rfl,j,i,k⟩:=h;obtain⟨f,d,u,e,m,s,o⟩:=j.ex;exists%[AK (Ck (Ao AX (Az Eh (Al (pv 0)) (pv 2)) Ai) (BK (Ao AX (Al (pv 0)) Ae))).pt (Ag (Aj K5)) Au|Aj (AG (Fx b) (pv 0) b.hc.cl l Ar (#v[pv 1,pv 2]))];refine CS (DG (DI (decide (r.kindAt c= .seat)) r.passed (fun t q=>⟨_,rfl,a,aH,f,_,_,rfl,e,b.hc.cl,b.hc.Fv,DT r d,_,rfl,_,_,_,rfl,rfl,CK r,Dl r i,rfl,_,rfl,HK q ((Dh (n:=83) rfl).trans (y3.mpr Lu))⟩) (fun Y t q=>⟨_,rfl,a,aH,f,_,_,rfl,e,b.hc.cl,b.hc.WH,Yp r d,rfl,_,rfl,HK q kH⟩) ?_));unfold hY at k;cases g:(decide (r.kindAt c= .seat)&&r.passed)with|true=>rw[g]at k;exact BI rfl k|false=>rw[g]at k;exact B8 rfl ⟨_,rfl,a,f,_,rfl,e,JW r d,_,rfl,_,rfl,a,r,p,c,rfl,j,i,k⟩
theorem o7:Ah ["self","cell"] ["self","cell"] (Ad Wt):={}
theorem Vr(b:AY):bY 2 aH "is_goal" ["self","cell"] (R8 aH):=by
 refine b.NM.has fun F=>F.ok o7 fun H Q E j h=>?_;obtain⟨a,r,c,rfl,q,m,k⟩:=h;obtain⟨g,d,u,f,l,p,o⟩:=q.ex;exists%[AK (Ao AX (Al (pv 0)) Ae) (Ag (Aj (Bn AX (Az Eh (Al (pv 0)) (pv 1)) Ai))) Au|Aj (Ay (Nf b) j rfl Ar (#v[A9 ME (pv 1) (AB (v:= .int 13) rfl (C2 b.Dc) ⟨_,rfl⟩),A9 IK (pv 1) (AB (v:= .int 13) rfl (C2 b.Dc) ⟨_,rfl⟩),Al (pv 0),Al (pv 0)]))];exists _,rfl,a,aH,g,_,_,rfl,f,b.hc.cl,b.hc.hU,fY r d,rfl,_,rfl;unfold Rules.onGoal at k;by_cases hg:r.goal=1;·rw[zc hg]at k;refine BI (zj (by rw[hg];rfl)) ⟨_,rfl,a,aH,g,_,_,rfl,f,b.hc.cl,b.hc.Fv,DT r d,_,rfl,_,_,_,rfl,rfl,CK r,Dl r m,rfl,?_⟩;have:=k H (AQ _);have e:decide (V.str ⟨#[Ca (r.kindAt c)]⟩=V.str "X")=(r.kindAt c== .exit):=((Dh (n:=88) rfl).trans (y3.mpr Qb)).trans (by rw[zZ,zJ,zP]);rw[<-e]at this;exact this
 ·rw[zb hg]at k;refine B8 (zo (by intro z;injection z with z;exact hg ∅)) ?_;have t:(c:Int)/13=((c/13:Nat):Int):=∅;have s:(c:Int)%13=((c%13:Nat):Int):=∅;refine⟨_,rfl,_,_,rfl,rfl,(by show(0:Int)<13;decide),_,rfl,_,_,rfl,rfl,⟨⋯,⋯⟩,_,rfl,a,aH,g,_,_,rfl,f,b.hc.cl,b.hc.O_,IX r d,_,rfl,a,aH,g,_,_,rfl,f,b.hc.cl,b.hc.Pa,IY r d,c%13,c/13,r.wide,r.high,?_,fun H' i=>?_⟩;·rw[t,s];rfl
  ·have:=k H' i;unfold Rules.onEdge at this;have e:decide (c%13=0\/c%13+1=r.wide\/c/13=0\/c/13+1=r.high)=(((c%STRIDE,c/STRIDE).1==0) ||((c%STRIDE,c/STRIDE).2==0) ||((c%STRIDE,c/STRIDE).1+1==r.wide) ||((c%STRIDE,c/STRIDE).2+1==r.high)):=by show _=((c%13==0) ||(c/13==0) ||(c%13+1==r.wide) ||(c/13+1==r.high));rw[zZ];simp only[yt,zP,zJ];lia
   rw[<-e]at this;exact this
theorem l_:Ah ["hall","position","king"] ["hall","position"] (Ad RP):={}
theorem Gw(c:AY):FJ 3 "decided" ["hall","position"] (O6 aH):=by
 refine c.YH.has fun F=>F.ok l_ fun H Q E l h=>?_;obtain⟨a,p,r,b,f,rfl,e,m,B,k⟩:=h;obtain⟨v,j,w,t,n,s,q⟩:=e.ex;exists%[An (i:=2) l_.nd (B4 yc PySem.F.slot_str_find PySem.F.type_str_find fD (Az Be (pv 1) Ae) (#v[Ai])),AK (Ao FA (pv 2) Ae) (Ag (Aj Ae)) Au|Aj (D4 (BS (AG (Vr c) (pv 0) c.hc.cl l Ar (#v[pv 2]))) Ae Ae)];exists _,rfl,p,_,_,_,rfl,rfl,.of m,rfl,rfl,_,_,rfl,rfl,_,rfl,_,_,rfl,rfl,_,rfl;have u:(Aq b f).king=Bv b:=rfl;unfold Rules.ended at k;rw[u]at k;by_cases ht:Bv b=TAKEN;·rw[zc ht]at k;exact BI (zj (by rw[Kc B,zc ht];decide)) (k H (AQ _))
 ·rw[zb ht]at k;have o:Bv b<169:=by
   rcases B.L8 with h|h;·exact absurd h ht
   ·exact h
  refine B8 (zo (by rw[Kc B,zb ht];lia)) ⟨_,rfl,a,v,_,rfl,t,Yr r j,_,rfl,a,r,Bv b,?_,e,o,fun H' g=>⟨_,rfl,?_⟩⟩;·rw[Kc B,zb ht];rfl
  ·have:=k H' g;cases d:r.onGoal (Bv b)with|true=>rw[d]at this;exact BI rfl this|false=>rw[d]at this;exact B8 rfl this
def Dq(r:Rules)(b:List Nat)(p d:Nat):Nat->Nat->List Nat|0,_=>[] |f+1,c=>match r.next d c with|none=>[] |some n=>if b.getD n 0=46/\hY r p n=true then(if WJ r p n=true then[n]else[])++(if p=75/\r.slides=false then[]else Dq r b p d f n)else[]
theorem YQ{r:Rules}(Z:B0 r)(B:AZ b)(s d g:Nat)(k:g<169):∀(f c:Nat),r.isCell c=true->Dq r b (b.getD g 0) d f c=if(Aq b s).king=g then r.kingWay (Aq b s) d f c else r.manWay (Aq b s) d f c:=by
 have l:(Aq b s).king=g↔b.getD g 0=75:=B.Bg k;intro f;induction f with
 |zero=>intro c Y;unfold Dq Rules.kingWay Rules.manWay;simp
 |succ f m=>
  intro c u;unfold Dq Rules.kingWay Rules.manWay;cases t:r.next d c with
  |none=>simp
  |some n=>
   have i:=BD Z u t;have h:n<169:=Z.lt i;have a:=m n i;cbv;have e:r.free (Aq b s) n=(!decide (r.kindAt n= .wall)&&decide (b.getD n 0=46)):=by unfold Rules.free;rw[B.on s h,HM.L0 B h];cases r.kindAt n<;>rfl
   rw[e];by_cases hp:b.getD g 0=75;·rw[zc (l.mpr hp)]at a|-;rw[hp]at a|-;unfold hY WJ;simp only[zc];cases j:r.kindAt n<;>by_cases h46:b.getD n 0=46<;>cases o:r.slides<;>simp_all
   ·rw[zb (fun q=>hp (l.mp q))]at a|-;unfold hY WJ;simp only[zb hp];cases j:r.kindAt n<;>by_cases h46:b.getD n 0=46<;>cases p:r.passed<;>simp_all
inductive Wi(C:Addr):_|mk(a:Addr)(r:Rules)(b:List Nat)(c d:Nat):vs=[.ref a,.str (Ak b),.int c,.int d]->Bf C H a r->b.length=169->r.isCell c=true->d<4->(∀H' q,Ap H H'->H q=none->H' q=some (.lst (nV (Dq r b (b.getD c 0) d 13 c)))->Q (.ref q) H')->Wi C vs H Q E
inductive Z4(C:Addr):_|mk(a:Addr)(r:Rules)(b:List Nat)(c s:Nat):vs=[.ref a,.str (Ak b),.int c]->Bf C H a r->AZ b->r.isCell c=true->(∀H' q,Ap H H'->H q=none->H' q=some (.lst (nV (r.reach (Aq b s) c)))->Q (.ref q) H')->Z4 C vs H Q E
theorem PH{r:Rules}{b:List Nat}{p d:Nat}:∀(f c:Nat),(Dq r b p d f c).length<=f
|0,c=>ze _
|f+1,c=>by
 unfold Dq;cases r.next d c with
 |none=>exact zx _
 |some n=>
  cbv;have:=PH (r:=r) (b:=b) (p:=p) (d:=d) f n;split;·rw[zd];split<;>split<;>simp<;>lia
  ·exact zx _
theorem EJ{t u:TS}{D:Ends}{b:L2.St}(J:L2.St->Hp->Prop)(c:∀a H',J a H'->u D a H')(d:(∀a H',J a H'->u D a H')->LR t u D b H):LR t u D b H:=d c
abbrev v7:List Str:=["hall","cells","begin","direction","piece","ends","cell"]
theorem ZL:Ah v7 ["hall","cells","begin","direction"] (Ad ae):={}
theorem Y0(s:AY):FJ 3 "ends_along" ["hall","cells","begin","direction"] (Wi aH):=by
 refine s.QO.has fun F=>F.ok ZL fun H Q E hr h=>?_;obtain⟨a,r,b,x,d,rfl,w,hb,hc,hd,k⟩:=h;obtain⟨Z,L,bs,X,P,a2,T⟩:=w.ex;have S:x<169:=w.Z.lt hc;have I:∀c,c<169->∃bc,bs[c]?=some bc:=fun c h=>⟨_,z4 (by rw[a2];exact h)⟩;have u:(Ak b).length<=sizeLine:=by rw[B3,hb];exact BN
 exists%[An (i:=4) ZL.nd (Az Eh (pv 1) (pv 2)),An (i:=5) ZL.nd (AE Cd),An (i:=6) ZL.nd (Az AD (Az AD (Al (pv 0)) (pv 2)) (pv 3)),CU y0 (Ck (Ao Hr (pv 6) (AB (v:= .int (-1)) (by rfl) (C2 s.Fd) ⟨_,rfl⟩)) (Ck (Ao AX (Az Eh (pv 1) (pv 6)) Ai) (BK (BS (AG (QB s) (pv 0) s.hc.cl hr Ar (#v[pv 4,pv 6])))))).pt (%[AK (BS (AG (Fx s) (pv 0) s.hc.cl (hr.mono ⋯) Ar (#v[pv 4,pv 6]))) (Ag (A2 (B4 zK zW zY By (pv 5) (#v[pv 6])))) Au,AK (Ck (Ao AX (pv 4) Ai) (BK (Ao AX (Al (pv 0)) Ae))).pt (Ag Se) Au|An (i:=6) ZL.nd (Az AD (Az AD (Al (pv 0)) (pv 6)) (pv 3))]) |Aj (pv 5)];refine⟨_,rfl,_,rfl,_,_,_,rfl,rfl,u,Ik (by rw[hb];exact S),zx _,fun q hq=>?_⟩;obtain⟨bc,W⟩:=I x S;have s0:Ap H (Av H q (.lst [])):=Af hq;exists _,rfl,a,aH,Z,_,_,rfl,s0 _ _ X,s.hc.cl,s.hc.GK,EY r L,_,rfl,L,_,_,_,rfl,rfl,AI.of (s0 _ _ P),AM (by rw[z7,W];rfl),_,rfl,bc,_,_,_,rfl,rfl,AI.of (s0 _ _ (T x bc W)),AM (MJ w.Z hd hc);generalize a1:b.getD x 0=p at k;generalize N:Dq r b p d 13 x=y at k;exists fun m σ H'=>E2 fun(j:List Nat) (c:Nat)=>A7 (σ=[some (.ref a),some (.str (Ak b)),some (.int (x:Nat)),some (.int (d:Nat)),some (.str ⟨#[p]⟩),some (.ref q),some (.int (HD (r.next d c)))]) (Ap H H') (H' q=some (.lst (nV j))) (r.isCell c=true) (HM.room r d c<m) (j.length+m<=13) (y=j++Dq r b p d m c),⟨13,[],x,by rw[<-a1];rfl,s0,Aa,hc,HM.W1 w.Z hc,ze _,N.symm⟩;rintro m σ H' ⟨j,c,rfl,J,A,R,a0,a3,f⟩;have l:y=j->PR (Bi 5) {nx:=fun Y H'=>Q .Bz H',rt:=Q} [some (.ref a),some (.str (Ak b)),some (.int (x:Nat)),some (.int (d:Nat)),some (.str ⟨#[p]⟩),some (.ref q),some (.int (HD (r.next d c)))] H':=fun e=>⟨_,rfl,k H' q J hq (by rw[e];exact A)⟩;obtain⟨m,rfl⟩:∃m',m=m'+1:=⟨m-1,∅⟩;rw[Dq]at f;exists _,rfl,rfl,_,rfl;cases B:r.next d c with
 |none=>rw[B]at f l;exact B8 ⋯ (B8 rfl (l (by rw[f];simp)))
 |some n=>
  rw[B]at f l;dsimp only at f;have M:r.isCell n=true:=BD w.Z R B;have C:n<169:=w.Z.lt M;have a5:=HM.ON w.Z R B;refine BI (by
   have:¬V.int (HD (some n))=V.int (-1):=by intro z;injection z with z;change(n:Int)= -1 at z;lia
   rw[zo this];rfl) (DI (decide (b.getD n 0=46)) (hY r p n) (fun Q' K=>⟨_,rfl,_,rfl,_,_,_,rfl,rfl,u,Ik (by rw[hb];exact C),rfl,_,rfl,HK K (Dh (n:=46) rfl)⟩) (fun Y Q' K=>⟨_,rfl,a,Z,_,rfl,J _ _ X,Yq r L,_,rfl,_,rfl,a,r,p,n,rfl,w.same J,C,_,rfl,K⟩) ?_);by_cases hgo:b.getD n 0=46/\hY r p n=true
  ·rw[zc hgo]at f;refine BI (by rw[zj hgo.1,hgo.2];rfl) ⟨fun t o=>∃g:List Nat,A5 (t=[some (.ref a),some (.str (Ak b)),some (.int (x:Nat)),some (.int (d:Nat)),some (.str ⟨#[p]⟩),some (.ref q),some (.int (HD (r.next d n)))]) (Ap H o) (o q=some (.lst (nV g))) (g.length<=j.length+1) (y=g++Dq r b p d m n),?_,?_⟩;·rintro t o ⟨g,rfl,D,h3,l3,O⟩;exact⟨m,yU m,g,n,rfl,D,h3,M,∅,∅,O⟩
   ·refine EJ (fun t o=>∃g:List Nat,A5 (t=[some (.ref a),some (.str (Ak b)),some (.int (x:Nat)),some (.int (d:Nat)),some (.str ⟨#[p]⟩),some (.ref q),some (.int (n:Nat))]) (Ap H o) (o q=some (.lst (nV g))) (g.length<=j.length+1) (y=g++(if p=75/\r.slides=false then[]else Dq r b p d m n))) ?_ ?_
    ·rintro t H2 ⟨g,rfl,D,h3,l3,O⟩;refine CS (DG (DI (decide (p=75)) (!r.slides) (fun Q' K=>⟨_,rfl,rfl,_,rfl,HK K (Dh (n:=75) rfl)⟩) (fun Y Q' K=>⟨_,rfl,a,aH,Z,_,_,rfl,D _ _ X,s.hc.cl,s.hc.WG,Yo r L,rfl,_,rfl,HK K kI⟩) ?_));by_cases hbr:p=75/\r.slides=false;·refine BI (by rw[zj hbr.1,hbr.2];rfl) ?_;rw[zc hbr,zR]at O;exact⟨_,rfl,k H2 q D hq (by rw[O];exact h3)⟩
     ·refine B8 (by cases a4:r.slides<;>simp_all) ?_;rw[zb hbr]at O;obtain⟨bn,U⟩:=I n C;exact⟨_,rfl,a,aH,Z,_,_,rfl,D _ _ X,s.hc.cl,s.hc.GK,EY r L,_,rfl,L,_,_,_,rfl,rfl,AI.of (D _ _ P),AM (by rw[z7,U];rfl),_,rfl,bn,_,_,_,rfl,rfl,AI.of (D _ _ (T n bn U)),AM (MJ w.Z hd M),g,rfl,D,h3,l3,O⟩
    ·intro G;exists _,rfl,a,Z,_,rfl,J _ _ X,JW r L,_,rfl,_,rfl,a,r,p,n,rfl,w.same J,C,_,rfl;by_cases hst:WJ r p n=true
     ·rw[zc hst]at f;refine BI hst ⟨_,rfl,.inl ⟨rfl,_,AI.of A⟩,_,rfl,q,_,_,rfl,rfl,A,?_,?_⟩;·unfold nV;rw[z3];exact zF (show j.length<169 by lia) BN
      ·refine G _ _ ⟨j++[n],rfl,Bu J hq,?_,by rw[zd];exact ze _,by rw[f,zX]⟩;rw[Aa];unfold nV;rw[zu];rfl
     ·rw[zb hst,qg]at f;rw[y4]at hst;exact B8 hst (G _ _ ⟨j,rfl,J,A,∅,f⟩)
  ·rw[zb hgo,zR]at f;exact B8 (by cases a6:hY r p n<;>simp_all) (l f)
abbrev u5:List Str:=["hall","cells","begin","ends","direction"]
theorem jn:Ah u5 ["hall","cells","begin"] (Ad g_):={}
theorem cj(t:AY):FJ 4 "ends_from" ["hall","cells","begin"] (Z4 aH):=by
 refine t.TN.has fun F=>F.ok jn fun H Q E z h=>?_;obtain⟨a,r,b,c,f,rfl,s,B,p,k⟩:=h;have o:c<169:=s.Z.lt p;exists%[An (i:=3) jn.nd (AE Cd),BB y0 rfl (ER (by rfl) t.GG (#v[Ae])) (Aw (i:=4) jn.nd) (Ag (A2 (B4 zK xN wA GO (pv 3) (#v[Ay (Y0 t) z rfl Ar (#v[pv 0,pv 1,pv 2,pv 4])])))) |Aj (pv 3)];have x:∀d,Dq r b (b.getD c 0) d 13 c=DW r (Aq b f) c d:=fun d=>YQ s.Z B f d c o 13 c p;refine⟨zx _,fun q m=>?_⟩;refine⟨4,rfl,⋯,⋯,GX (n:=4) (fun i j H'=>∃l,A3 (j=[some (.ref a),some (.str (Ak b)),some (.int (c:Nat)),some (.ref q),l]) (Ap H H') (H' q=some (.lst (nV ((List.range i).flatMap fun d=>DW r (Aq b f) c d)))/\((List.range i).flatMap fun d=>DW r (Aq b f) c d).length<=13*i)) ⟨none,rfl,Af m,Aa,zx _⟩ ?_ ?_⟩
 ·rintro i j H' D ⟨l,rfl,g,e,v⟩;have G:(0:Int)+(i:Int)=(i:Int):=∅;refine⟨_,rfl,.inl ⟨rfl,_,AI.of e⟩,_,rfl,_,rfl,_,rfl,_,rfl,a,r,b,c,i,?_,s.same g,B.len,p,D,fun I y u A w=>?_⟩;·rw[G];rfl
  ·rw[x i]at w;have C:(DW r (Aq b f) c i).length<=13:=by rw[<-x i];exact PH 13 c
   exists q,y,_,_,rfl,rfl,u _ _ e,w,?_;·unfold nV;rw[z3,z3];have:=BN;lia
   ·exists _,rfl,Bu (g.trans u) m,?_;·rw[Aa,yg,yd];unfold nV;rw[zu,yb]
    ·rw[yg,yd,zd,yb];lia
 ·rintro j H' ⟨l,rfl,g,e,Y⟩;exact⟨_,rfl,k H' q g m e⟩
theorem BQ.sq(h:BQ K a xs)(H:Hp):Em K H a xs:= .inr h
def Ra(H:Hp)(q:Addr)(c:List (Nat×Nat)):Prop:=∃b:List Addr,H q=some (.lst (b.map V.ref))/\Paired (fun a (m:Nat×Nat)=>H_ H a m.1 m.2) b c
inductive V_(C:Addr):_|mk(a p:Addr)(r:Rules)(b:List Nat)(s:Nat):vs=[.ref a,.ref p]->Bf C H a r->Dd H p b s->AZ b->Right r b->s<=1->(∀H' q,Ap H H'->H q=none->Ra H' q (r.moves (Aq b s))->Q (.ref q) H')->V_ C vs H Q E
inductive R6(C:Addr):_|mk(a p:Addr)(r:Rules)(b:List Nat)(s:Nat):vs=[.ref a,.ref p]->Bf C H a r->Dd H p b s->AZ b->Right r b->s<=1->(∀H',Ap H H'->Q (.int (r.over (Aq b s):Nat)) H')->R6 C vs H Q E
theorem Am{d c:Type}{R S:d->c->Prop}(h:∀a b,R a b->S a b){f:List d}{e:List c}(p:Paired R f e):Paired S f e:=Paired.fM p h
theorem BU{b a:Type}{R:b->a->Prop}:∀{f d:List b}{e c:List a},Paired R f e->Paired R d c->Paired R (f++d) (e++c) |_,_,_,_,.nil,q=>q|_,_,_,_,.cons h t,q=> .cons h (BU t q)
theorem in1(e:x=⟨#[n]⟩:=by rfl):(if false=true then !NA (V.str ⟨#[c]⟩) [V.str x]else NA (V.str ⟨#[c]⟩) [V.str x])=(c==n):=by rw[zb ⋯];show((x==(⟨#[c]⟩:Str)) ||false)=_;rw[wC,om e]
def Zc(r:Rules)(b:List Nat)(t c:Nat):List (Nat×Nat):=if NL t (b.getD c 0)=true then(CI r (Aq b t) c).map fun e=>(c,e)else[]
theorem m7(r:Rules)(b:List Nat)(t:Nat):hX r b t=(List.range 169).flatMap (Zc r b t):=rfl
theorem Jg{r:Rules}(Z:B0 r){p:Tafl.Pos}(a:r.isCell c=true):(CI r p c).length<=52:=by
 have d:(CI r p c).Nodup:=by unfold CI;exact wW.filter _
 have b:(CI r p c).Perm (r.reach p c):=(w9 d (K4 Z a)).mpr fun x=>by rw[HM.MN];exact⟨fun h=>h.2,fun h=>⟨by have:=Z.lt (HJ Z a h).1;lia,h⟩⟩
 rw[b.length_eq];exact OO Z a
abbrev qE:List Str:=["hall","position","cells","found","begin","piece","end"]
theorem UB:Ah qE ["hall","position"] (Ad UD):={}
theorem JX(P:AY):FJ 5 "moves_of" ["hall","position"] (V_ aH):=by
 obtain⟨aS,s0,s1,hS,kS,k0,k1⟩:=P.AO;refine P.V7.has fun F=>F.ok UB fun H Q E hr h=>?_;obtain⟨a,p,r,b,f,rfl,A,hp,B,R,hs,k⟩:=h;exists%[AK (Ao Hr (Ay (Gw P) (hr.mono ⋯) rfl Ar (#v[pv 0,pv 1])) Ae) (Ag (Aj (AE Cd))) Au,An (i:=2) UB.nd (Az Be (pv 1) Ae),An (i:=3) UB.nd (AE Cd),BB y0 rfl (IH (by rfl) P.BF (#v[pv 2])) (Di rfl (AR (Aw (i:=4) UB.nd) (AR (Aw (i:=5) UB.nd) Cp))) (Ag (AK (Ao EU (pv 5) (Az Be (AB (v:= .ref aS) rfl hS rfl) (Az Be (pv 1) Ae)) #v[]) (Ag (A2 (B4 zK xN wA GO (pv 3) (#v[F_ (own:=[("end",6)]) rfl UB.nd (BL (AN P7 P.Su Gu (#v[Ay (cj P) hr rfl Ar (#v[pv 0,pv 2,pv 4])]))) (Dm (N0:=qE) (sc0:=Ad UD) rfl rfl ∎) (fun Y Y Y Y Y=>Aw (i:=6) UB.nd) (fun Y Y Y Y Y=>Cg) (fun Y Y Y Y Y=>B2 (#v[pv 4,pv 6]))])))) Au)) |Aj (pv 3)];refine⟨_,rfl,_,rfl,a,p,r,b,f,rfl,A,hp,B,fun H1 t=>⟨rfl,_,rfl,?_⟩⟩;rw[ML B hs]at k;by_cases he:r.ended (Aq b f)=0
 ·rw[zb (fun q=>q he),m7]at k;refine B8 (by rw[he];decide) ⟨_,rfl,p,_,_,_,rfl,rfl,.of (t _ _ hp),rfl,zx _,fun q O=>?_⟩;obtain⟨g,xs,eg,kg,fg,ig⟩:∃g xs,([V.ref s0,V.ref s1]:List V)[f]?=some (.ref g)/\BQ K g xs/\xs.all Hy=true/\∀c,(if false=true then !NA (V.str ⟨#[c]⟩) xs else NA (V.str ⟨#[c]⟩) xs)=NL f c:=by match f,hs with|0,_=>exact⟨s0,_,rfl,k0,rfl,fun c=>in1⟩ |1,_=>exact⟨s1,_,rfl,k1,rfl,fun c=>pb⟩
  have a1:(Ak b).cps.size=169:=by rw[<-B.len];simp[Ak]
  refine⟨_,rfl,Ak b,rfl,GY (fun i σ H'=>E2 fun v4 v5=>A4 (σ=[some (.ref a),some (.ref p),some (.str (Ak b)),some (.ref q),v4,v5,none]) (Ap H H') (Ra H' q ((List.range i).flatMap (Zc r b f))) (((List.range i).flatMap (Zc r b f)).length<=52*i)) ⟨none,none,rfl,t.trans (Af O),⟨[],Aa,.nil⟩,zx _⟩ ?_ ?_⟩
  ·rintro i c σ H' T hi ⟨v4,v5,rfl,U,⟨as,l,I⟩,Z⟩ hT;have a3:i<169:=by rw[<-a1];exact(tS.mp hi).1
   have a4:c=b.getD i 0:=by
    have:b[i]?=some c:=by simpa[Ak]using hi
    rw[z5,this];rfl
   subst a4;have s:Ap H' (Av H' T (.tup [.int (i:Nat),.str ⟨#[b.getD i 0]⟩])):=Af hT;exists T,_,rfl,.of Aa,rfl,_,_,rfl,_,_,rfl,rfl,_,rfl,_,rfl,p,_,_,_,rfl,rfl,.of (s _ _ (U _ _ hp)),rfl,aS,_,_,_,rfl,rfl,kS.sq _,AM eg,g,xs,rfl,.inr (kg.sq _),rfl,fg,_,rfl;have S:=U.trans s;by_cases how:NL f (b.getD i 0)=true
   ·refine BI ((ig _).trans how) ?_;have d:r.isCell i=true:=(R i a3 (by intro z;rcases JI hs how with⟨Y,h⟩ |⟨Y,h|h⟩<;>rw[z]at h<;>cases h)).1;refine⟨_,rfl,.inl ⟨rfl,_,AI.of (s _ _ l)⟩,_,rfl,_,rfl,_,rfl,a,r,b,i,f,rfl,A.same S,B,d,fun H2 q2 s2 a9 h2=>?_⟩;refine⟨q2,(r.reach (Aq b f) i).map fun(c:Nat)=>(c:Int),rfl,AI.of (by rw[h2];unfold nV;rw[zG];rfl),?_,fun ns p' M L a2=>?_⟩;·rw[z3];have:=OO A.Z (p:=Aq b f) d;lia
    ·have e:=Hi (n:=192) M L (K4 A.Z d) fun x hx=>by have:=A.Z.lt (HJ A.Z d hx).1;lia
     have e':ns=(CI r (Aq b f) i).map fun(x:Nat)=>(x:Int):=e;subst e';have s3:Ap H' (Av H2 p' (.lst (((CI r (Aq b f) i).map fun(x:Nat)=>(x:Int)).map V.int))):=(s.trans s2).trans (Af a2);refine⟨p',rfl,⟨_,AI.of Aa⟩,fun D hD=>?_⟩;refine C_ (xs:=((CI r (Aq b f) i).map fun(x:Nat)=>(x:Int)).map V.int) (fun j w=>∃C:List Addr,Ap (Av H2 p' (.lst (((CI r (Aq b f) i).map fun(x:Nat)=>(x:Int)).map V.int))) w/\w D=some (.lst (C.map V.ref))/\Paired (fun a (m:Nat×Nat)=>H_ w a m.1 m.2) C (((CI r (Aq b f) i).take j).map fun e=>(i,e))) ⟨[],Af hD,Aa,.nil⟩ (fun j w Y ⟨_,z,_,_⟩=>AI.of (z _ _ Aa)) ?_ ?_
     ·rintro j v w hj ⟨C,sj,u,N⟩;obtain⟨e2,a0,rfl⟩:∃e2,(CI r (Aq b f) i)[j]?=some e2/\v= .int (e2:Nat):=by rw[zG,z7,zy]at hj;obtain⟨c,e,rfl⟩:=hj;exact⟨c,e,rfl⟩
      refine⟨rfl,?_⟩;unfold HF;cbv;rw[zc rfl];refine⟨_,rfl,_,rfl,K0,fun t2 J=>?_⟩;have X:D≠t2:=Ab u J;have a5:j<52:=zF (z8.mp a0).1 (Jg A.Z d);have dl:C.length<=j:=by rw[zE N,z3,zO];exact Nat.min_le_left _ _
      exists C.map V.ref,by rw[Ac X];exact u,?_,C++[t2],fun b' o e'=>?_,?_;·rw[z3];have:=BN;lia
      ·rw[Ac (Ab e' hD),Ac (Ab (sj _ _ e') J)];exact sj _ _ e'
      ·rw[Aa,zu];rfl
      ·rw[yi,a0,zu];refine BU (Am (fun G m' z=>?_) N) (.cons ?_ .nil);·show Av _ D _ G=_;have y:w G=_:=z;rw[Ac (Ss y u (by intro q;cases q)),Ac (Ab y J)];exact y
       ·show Av _ D _ t2=_;rw[Ac (zN X),Aa]
     ·rintro w ⟨C,sj,u,N⟩;rw[z3,z3,y1]at N;have W:Ap H' w:=s3.trans sj;have a6:q≠D:=fun z=>by rw[z,show H' D=none from(s3.free hD)]at l;cases l
      have a7:C.length<=52:=by rw[zE N,z3];exact Jg A.Z d
      have a8:as.length<=52*i:=by rw[zE I];exact Z
      exists q,D,_,_,rfl,rfl,W _ _ l,u,?_;·rw[z3,z3];have:(9000:Nat)<=sizeLine:=⋯;lia
      ·have eF:(List.range (i+1)).flatMap (Zc r b f)=(List.range i).flatMap (Zc r b f)++(CI r (Aq b f) i).map fun e=>(i,e):=by rw[yg,yd,yb];unfold Zc;rw[zc how]
       exists _,_,rfl,Bu (U.trans W) (t.free O),⟨as++C,by rw[Aa,zu],?_⟩
       ·rw[eF];refine BU (Am (fun G m' z=>?_) I) (Am (fun G m' z=>?_) N);·show Av _ q _ G=_;have y:w G=_:=W _ _ z;rw[Ac (Ss y (W _ _ l) (by intro q;cases q))];exact y
        ·show Av _ q _ G=_;have y:w G=_:=z;rw[Ac (Ss y (W _ _ l) (by intro q;cases q))];exact y
       ·rw[eF,zd,z3];have:=Jg A.Z (p:=Aq b f) d;lia
   ·rw[y4]at how;refine B8 ((ig _).trans how) ?_;have eF:(List.range (i+1)).flatMap (Zc r b f)=(List.range i).flatMap (Zc r b f):=by rw[yg,yd,yb];unfold Zc;rw[zb (by rw[how];decide),zR]
    refine⟨_,_,rfl,S,⟨as,s _ _ l,?_⟩,by rw[eF];lia⟩;rw[eF];exact Am (fun Y Y=>s _ _) I
  ·rintro σ H' ⟨v4,v5,rfl,U,hm,Y⟩;rw[a1]at hm;exact⟨_,rfl,k H' q U (t.free O) hm⟩
 ·rw[zc he]at k;exact BI (by
   have:¬V.int ((r.ended (Aq b f):Nat):Int)=V.int 0:=by intro z;injection z with z;exact he ∅
   rw[zo this];rfl) ⟨zx _,fun q O=>k _ q (t.trans (Af O)) (t.free O) ⟨[],Aa,.nil⟩⟩
abbrev se:List Str:=["hall","position","state"]
theorem lR:Ah se ["hall","position"] (Ad Wq):={}
theorem Sw{q:Addr}{a:List (Nat×Nat)}(h:Ra H q a):∃xs,H q=some (.lst xs)/\(!xs.isEmpty)=!a.isEmpty:=by obtain⟨d,c,b⟩:=h;exists _,c;cases b<;>rfl
theorem Nd(f:AY):FJ 6 "over_by" ["hall","position"] (R6 aH):=by
 refine f.YD.has fun F=>F.ok lR fun H Q E j h=>?_;obtain⟨a,p,r,b,e,rfl,n,l,B,R,t,k⟩:=h;exists%[An (i:=2) lR.nd (Ay (Gw f) (j.mono ⋯) rfl Ar (#v[pv 0,pv 1])),AK (Ck (Ao AX (pv 2) Ae) (BK (FV (IF (Ay (JX f) j (by rfl) Ar (#v[pv 0,pv 1])) (fun Y=>rfl))))).pt (Ag (Aj Ae)) Au|Aj (pv 2)];refine⟨_,rfl,_,rfl,a,p,r,b,e,rfl,n,l,B,fun v c=>?_⟩;exists _,rfl,rfl,_,rfl;unfold Rules.over at k;by_cases he:r.ended (Aq b e)=0;·rw[zb (fun q=>q he)]at k;refine BI (zj (by rw[he];rfl)) ⟨_,rfl,_,rfl,a,p,r,b,e,rfl,n.same c,c _ _ l,B,R,t,fun o q g x u=>?_⟩;obtain⟨xs,s,ex⟩:=Sw u;exists _,.inl ⟨xs,AI.of s,rfl⟩;cbv;rw[ex];cases d:r.moves (Aq b e)with|nil=>rw[d,zc rfl]at k;exact BI rfl (k o (c.trans g)) |cons m w=>rw[d,zb (by intro z;cases z)]at k;refine B8 rfl ⟨_,rfl,?_⟩;rw[he];exact k o (c.trans g)
 ·rw[zc he]at k;refine B8 (zo (by intro z;injection z with z;exact he ∅)) (B8 rfl ⟨_,rfl,k v c⟩)
section
variable(P:Program)(w:World)(K:Frag)(mg:Str->Option Value)(base:Heap)
inductive VL(C:Addr)(name:Str)(ns:List Int):Prop|mk(f fd:_):PK K C f->VQ K C "told"->mg name=some (.ref C)->Bm K fd ["self"] []->FE P w K mg base PM 2 f fd ["self"] (Ls K ns)->VL C name ns
inductive Fm(K:Frag)(n:Int):_|mk(a kind place:_):vs=[.ref a,.int kind,.int place]->(∃C f,PK K C f/\VQ K C "told"/\H a=some (XO a C none)/\∀H' dx l,H' a=some (XO a C (some dx))->H' dx=some (.xd [("told",.ref l)])->H' l=some (.lst (([n,kind,place]:List Int).map V.int))->H dx=none->H l=none->dx≠a->l≠a->(∀b o,H b=some o->b≠a->H' b=some o)->Q .Bz H')->Fm K n vs H Q E
inductive VO(C:Addr)(name:Str)(n:Int):Prop|mk(f fd:_):PK K C f->VQ K C "told"->mg name=some (.ref C)->Bm K fd ["self","kind","place"] []->FE P w K mg base PM 2 f fd ["self","kind","place"] (Fm K n)->VO C name n
end
abbrev pX(C:Addr)(x:Str)(ns:List Int):Prop:=VL P w K mg base C x ns
abbrev fX(C:Addr)(x:Str)(n:Int):Prop:=VO P w K mg base C x n
def Ref(C:Addr)(ns:List Int)(H:Hp)(E:XK):Prop:=∀H' a l,H' a=some (.xd [("told",.ref l)])->H' l=some (.lst (ns.map V.int))->H l=none->Ap H H'->E (.ref C) (some a) H'
theorem Ref.same{a:Hp}{E:XK}(h:Ref C ns H E)(s:Ap H a):Ref C ns a E:=fun H' f l e d c b=>h H' f l e d (s.free c) (s.trans b)
section
variable{X:Cx}{C:Addr}{x:Str}{ns:List Int}{E:XK}{p pos rpos:PySem.Pos}{n:Int}{e:Expr}{es:List Expr}{t:TA}
theorem DZ(h:VL X.prog X.w X.K X.mg X.base C x ns)(d:Cj 3 X.A)(g:Gl X x)(i:X.calm=true)(c:C6 true X E)(a:(x==("__debug__":Str))=false:=by decide):PS X (.Raise (some (.Call (.Name x p) [] [] pos)) none rpos) (HG C (Ls X.K ns) E B_):=by obtain⟨f,fd,M,T,e,b,G⟩:=h;exact XH M G d g e b i c a
theorem Sd(h:VO X.prog X.w X.K X.mg X.base C x n)(g:Cj 3 X.A)(j:Gl X x)(l:X.calm=true)(d:C6 true X E)(m:PA X (e::es) t)(c:(x==("__debug__":Str))=false:=by decide)(k:starEach (e::es) X.env=(false,eval e X.env)::starEach es X.env:=by rfl)(a:(backTo pos (starEach es X.env)).any (·.1)=false:=by rfl):PS X (.Raise (some (.Call (.Name x p) (e::es) [] pos)) none rpos) (HG C (Fm X.K n) E t):=by obtain⟨f,fd,M,T,i,b,G⟩:=h;exact EN M G g j i b l d m c k a
end
theorem D_{c:Str}(h:pX C c ns){E:XK}{D:Ends}{m:L2.St}(k:Ref C ns H E):HG C (Ls K ns) E B_ D m H:=by obtain⟨f,fd,M,T,v,b,G⟩:=h;refine⟨zx _,fun a n=>⟨a,rfl,C,f,M,T,Aa,fun H' j l t s r u i p g q=>⟨rfl,some j,t,k (Li H' a) j l (by rw[BX p];exact s) (by rw[BX g];exact r) (by rw[Ac g]at i;exact i) fun b o e=>?_⟩⟩⟩;have d:b≠a:=Ab e n;rw[BX d];exact q b o (by rw[Ac d];exact e) d
theorem Tu{g:Str}{n kind c:Int}(h:fX C g n){E:XK}(k:Ref C [n,kind,c] H E):([V.int kind,V.int c]:List V).length<=sizeLine/\∀a,H a=none->Fm K n [.ref a,.int kind,.int c] (Av H a (XO a C none)) (fun v q=>v= .Bz/\∃d,q a=some (XO a C d)/\E (.ref C) d (Li q a)) E0:=by obtain⟨f,fd,M,T,z,b,G⟩:=h;refine⟨K0,fun a r=>⟨a,kind,c,rfl,C,f,M,T,Aa,fun H' p l x w u y m s j t=>⟨rfl,some p,x,k (Li H' a) p l (by rw[BX s];exact w) (by rw[BX j];exact u) (by rw[Ac j]at m;exact m) fun b o e=>?_⟩⟩⟩;have i:b≠a:=Ab e r;rw[BX i];exact t b o (by rw[Ac i];exact e) i
theorem Qc:Ah ["self"] ["self"] (Ad K1):={}
theorem Hv(q:AY):pX aW "WrongMost" [-1]:=by
 obtain⟨f,fd,F,G,L,J,t⟩:=q.Rk;obtain⟨y,j,P,O,I,w,x,D⟩:=q.ref;exists f,fd,L,J,t,G;have N:WZ 1 y j ["self","told"] (Co K):=CC O w;refine F.fq Qc fun H Q E u h=>?_;obtain⟨a,rfl,C,g,M,T,n,k⟩:=h;exists Ag (A2 (Fs N u rfl x D I Ar (#v[pv 0,AE (#v[Hq EC Ae])])));refine⟨_,rfl,1,rfl,Js,fun l i=>?_⟩;have d:a≠l:=Ab n i;refine⟨a,.ref l,rfl,C,g,M,T,by rw[Ac d];exact n,fun H' p B A c s m=>?_⟩;have r:p≠l:=fun z=>by rw[z,Aa]at c;cases c
 refine k H' p l B A (m l _ Aa (zN d)) (by rw[Ac r]at c;exact c) i s (zN d) fun b o e v=>?_;exact m b o (by rw[Ac (Ab e i)];exact e) v
theorem Ir:Ah ["self"] ["self"] (Ad EK):={}
theorem BW(q:AY):pX aP "NoSuchPosition" [-2]:=by
 obtain⟨f,fd,F,G,L,J,t⟩:=q.Jw;obtain⟨y,j,P,O,I,w,x,D⟩:=q.ref;exists f,fd,L,J,t,G;have N:WZ 1 y j ["self","told"] (Co K):=CC O w;refine F.fq Ir fun H Q E u h=>?_;obtain⟨a,rfl,C,g,M,T,n,k⟩:=h;exists Ag (A2 (Fs N u rfl x D I Ar (#v[pv 0,AE (#v[Hq EC Ae])])));refine⟨_,rfl,2,rfl,Js,fun l i=>?_⟩;have d:a≠l:=Ab n i;refine⟨a,.ref l,rfl,C,g,M,T,by rw[Ac d];exact n,fun H' p B A c s m=>?_⟩;have r:p≠l:=fun z=>by rw[z,Aa]at c;cases c
 refine k H' p l B A (m l _ Aa (zN d)) (by rw[Ac r]at c;exact c) i s (zN d) fun b o e v=>?_;exact m b o (by rw[Ac (Ab e i)];exact e) v
theorem KW:Ah ["self"] ["self"] (Ad FR):={}
theorem Cs(q:AY):pX aN "NothingThere" [-3]:=by
 obtain⟨f,fd,F,G,L,J,t⟩:=q.LJ;obtain⟨y,j,P,O,I,w,x,D⟩:=q.ref;exists f,fd,L,J,t,G;have N:WZ 1 y j ["self","told"] (Co K):=CC O w;refine F.fq KW fun H Q E u h=>?_;obtain⟨a,rfl,C,g,M,T,n,k⟩:=h;exists Ag (A2 (Fs N u rfl x D I Ar (#v[pv 0,AE (#v[Hq EC Ae])])));refine⟨_,rfl,3,rfl,Js,fun l i=>?_⟩;have d:a≠l:=Ab n i;refine⟨a,.ref l,rfl,C,g,M,T,by rw[Ac d];exact n,fun H' p B A c s m=>?_⟩;have r:p≠l:=fun z=>by rw[z,Aa]at c;cases c
 refine k H' p l B A (m l _ Aa (zN d)) (by rw[Ac r]at c;exact c) i s (zN d) fun b o e v=>?_;exact m b o (by rw[Ac (Ab e i)];exact e) v
theorem Mq:Ah ["self"] ["self"] (Ad Hn):={}
theorem FC(q:AY):pX aO "AlreadyOver" [-4]:=by
 obtain⟨f,fd,F,G,L,J,t⟩:=q.ND;obtain⟨y,j,P,O,I,w,x,D⟩:=q.ref;exists f,fd,L,J,t,G;have N:WZ 1 y j ["self","told"] (Co K):=CC O w;refine F.fq Mq fun H Q E u h=>?_;obtain⟨a,rfl,C,g,M,T,n,k⟩:=h;exists Ag (A2 (Fs N u rfl x D I Ar (#v[pv 0,AE (#v[Hq EC Ae])])));refine⟨_,rfl,4,rfl,Js,fun l i=>?_⟩;have d:a≠l:=Ab n i;refine⟨a,.ref l,rfl,C,g,M,T,by rw[Ac d];exact n,fun H' p B A c s m=>?_⟩;have r:p≠l:=fun z=>by rw[z,Aa]at c;cases c
 refine k H' p l B A (m l _ Aa (zN d)) (by rw[Ac r]at c;exact c) i s (zN d) fun b o e v=>?_;exact m b o (by rw[Ac (Ab e i)];exact e) v
theorem U6:Ah ["self"] ["self"] (Ad OA):={}
theorem KJ(q:AY):pX aT "TooMany" [-9]:=by
 obtain⟨f,fd,F,G,L,J,t⟩:=q.Xo;obtain⟨y,j,P,O,I,w,x,D⟩:=q.ref;exists f,fd,L,J,t,G;have N:WZ 1 y j ["self","told"] (Co K):=CC O w;refine F.fq U6 fun H Q E u h=>?_;obtain⟨a,rfl,C,g,M,T,n,k⟩:=h;exists Ag (A2 (Fs N u rfl x D I Ar (#v[pv 0,AE (#v[Hq EC Ae])])));refine⟨_,rfl,9,rfl,Js,fun l i=>?_⟩;have d:a≠l:=Ab n i;refine⟨a,.ref l,rfl,C,g,M,T,by rw[Ac d];exact n,fun H' p B A c s m=>?_⟩;have r:p≠l:=fun z=>by rw[z,Aa]at c;cases c
 refine k H' p l B A (m l _ Aa (zN d)) (by rw[Ac r]at c;exact c) i s (zN d) fun b o e v=>?_;exact m b o (by rw[Ac (Ab e i)];exact e) v
theorem Mp:Ah ["self","kind","place"] ["self","kind","place"] (Ad Hm):={}
theorem C9(r:AY):fX aL "LineAtFault" (-5):=by
 obtain⟨f,fd,F,I,N,L,u⟩:=r.NC;obtain⟨A,m,R,P,J,x,y,G⟩:=r.ref;exists f,fd,N,L,u,I;have O:WZ 1 A m ["self","told"] (Co K):=CC P x;refine F.fq Mp fun H Q E v h=>?_;obtain⟨a,kind,d,rfl,C,g,M,T,p,k⟩:=h;exists Ag (A2 (Fs O v rfl y G J Ar (#v[pv 0,AE (#v[Hq EC Ae,pv 1,pv 2])])));refine⟨_,rfl,5,rfl,_,rfl,_,rfl,kX,fun l j=>?_⟩;have i:a≠l:=Ab p j;refine⟨a,.ref l,rfl,C,g,M,T,by rw[Ac i];exact p,fun H' q D B c t n=>?_⟩;have s:q≠l:=fun z=>by rw[z,Aa]at c;cases c
 refine k H' q l D B (n l _ Aa (zN i)) (by rw[Ac s]at c;exact c) j t (zN i) fun b o e w=>?_;exact n b o (by rw[Ac (Ab e j)];exact e) w
theorem KU:Ah ["self","kind","place"] ["self","kind","place"] (Ad FQ):={}
theorem Cr(r:AY):fX aS "RulesAtFault" (-6):=by
 obtain⟨f,fd,F,I,N,L,u⟩:=r.LI;obtain⟨A,m,R,P,J,x,y,G⟩:=r.ref;exists f,fd,N,L,u,I;have O:WZ 1 A m ["self","told"] (Co K):=CC P x;refine F.fq KU fun H Q E v h=>?_;obtain⟨a,kind,d,rfl,C,g,M,T,p,k⟩:=h;exists Ag (A2 (Fs O v rfl y G J Ar (#v[pv 0,AE (#v[Hq EC Ae,pv 1,pv 2])])));refine⟨_,rfl,6,rfl,_,rfl,_,rfl,kX,fun l j=>?_⟩;have i:a≠l:=Ab p j;refine⟨a,.ref l,rfl,C,g,M,T,by rw[Ac i];exact p,fun H' q D B c t n=>?_⟩;have s:q≠l:=fun z=>by rw[z,Aa]at c;cases c
 refine k H' q l D B (n l _ Aa (zN i)) (by rw[Ac s]at c;exact c) j t (zN i) fun b o e w=>?_;exact n b o (by rw[Ac (Ab e j)];exact e) w
inductive VY:_|mk(f o w:Nat):vs=[.int f,.int o,.int w]->0<w->w<=13->Q (.int (f+o+o/w:Nat)) H->VY vs H Q E
def Ye(p g:Nat):Bool:=if p=46 then true else if p=75 then(g==46||g==83)else g==46
inductive Me:_|mk(p g:Nat):vs=[.str ⟨#[p]⟩,.str ⟨#[g]⟩]->(∀H',Ap H H'->Q (.bl (Ye p g)) H')->Me vs H Q E
theorem oz:Ah ["first","order","wide"] ["first","order","wide"] (Ad ZP):={}
theorem Pp(f:AY):FJ 1 "place_in_rows" ["first","order","wide"] VY:=by
 refine f.Lj.has fun F=>F.ok oz fun H Q E g h=>?_;obtain⟨a,b,c,rfl,i,d,k⟩:=h;exists Ag (Aj (A9 Ce (A9 Ce (pv 0) (pv 1)) (A9 IK (pv 1) (pv 2))));have e:(b:Int)/(c:Int)=((b/c:Nat):Int):=by first|exact(tz b c).symm|exact(Int.ofNat_ediv b c).symm
 exists _,rfl,_,rfl,_,_,rfl,rfl,_,rfl,_,rfl,_,_,rfl,rfl,⟨∅,∅⟩,_,_,rfl,rfl;cbv;rw[e];exact k
theorem o4:Ah ["piece","sign"] ["piece","sign"] (Ad OF):={}
theorem QA(b:AY):FJ 1 "may_start" ["piece","sign"] Me:=by
 refine b.TM.has fun F=>F.ok o4 fun H Q E c h=>?_;obtain⟨p,g,rfl,k⟩:=h;exists%[AK (Ao AX (pv 0) Ai) (Ag (Aj K5)) Au,AK (Ao AX (pv 0) Ai) (Ag (Aj (Bn EU (pv 1) (B2 (#v[Ai,Ai])) #v[]))) Au|Aj (Bn AX (pv 1) Ai)];exists _,rfl,rfl,_,rfl;unfold Ye at k;by_cases h1:p=46;·rw[zc h1]at k;exact BI (X7 (n:=46) h1) (k H (AQ _))
 ·rw[zb h1]at k;refine B8 (X8 (n:=46) h1) ⟨_,rfl,rfl,_,rfl,?_⟩;by_cases h2:p=75;·rw[zc h2]at k;refine BI (X7 (n:=75) h2) ⟨_,rfl,K0,fun t a=>⟨t,_,rfl,.inr (.of Aa),rfl,rfl,?_⟩⟩;have e:(if false=true then !NA (V.str ⟨#[g]⟩) [V.str ".",V.str "S"]else NA (V.str ⟨#[g]⟩) [V.str ".",V.str "S"])=(g==46||g==83):=pb;have:=k _ (Af (o:= .tup [V.str ".",V.str "S"]) a);rw[<-e]at this;exact this
  ·rw[zb h2]at k;refine B8 (X8 (n:=75) h2) ⟨_,rfl,rfl,?_⟩;have e:decide (V.str ⟨#[g]⟩=V.str ".")=(g==46):=(Dh (n:=46) rfl).trans (by rw[zZ,zJ,zP]);have:=k H (AQ _);rw[<-e]at this;exact this
def B7(H:Hp)(l:Addr)(b:List (Int×Int)):Prop:=∃a:List Addr,H l=some (.lst (a.map V.ref))/\Paired (Ci H) a b
def cx(y:List Nat)(a w o:Nat):List (Int×Int):=if y.getD o 0=83/\83∈y.take o then[(((a+o+o/w:Nat):Int),2)]else[]
def gF(y:List Nat)(a w n:Nat):List (Int×Int):=(List.range n).flatMap (cx y a w)
inductive O3:_|mk(sd:Addr)(kvs:List (Key×V))(y:List Nat)(gp w:Nat):vs=[.ref sd]->H sd=some (.dK kvs)->Ba kvs (Sum.inr "ground")=some (.str (Ak y))->Ba kvs (Sum.inr "ground place")=some (.int gp)->Ba kvs (Sum.inr "wide")=some (.int w)->0<w->w<=13->y.length<=169->(∀H' l,Ap H H'->H l=none->B7 H' l (gF y gp w y.length)->Q (.ref l) H')->O3 vs H Q E
theorem cS{j:Nat}(c:j<=b.length):DO (Ak b) none (some (j:Int))=Ak (b.take j):=by have a:(Ak b).length=b.length:=B3 b;unfold DO;rw[a,Bb,HT.Fn,HT.Iy,xf c,xK,uR];rfl
theorem HV{l t:Addr}{a:List Addr}{d:List (Int×Int)}{p:Int×Int}(s:Ap H H')(h:H' l=some (.lst (a.map V.ref)))(f:Paired (Ci H') a d)(g:Ci H' t p):B7 (Av H' l (.lst (a.map V.ref++[.ref t]))) l (d++[p]):=by
 have c:∀b xs,H' b=some (.tup xs)->Av H' l (.lst (a.map V.ref++[.ref t])) b=some (.tup xs):=fun b xs e=>by
  rw[Ac];·exact e
  ·intro z;rw[z,h]at e;cases e
 exact⟨a++[t],by rw[Aa,zu];rfl,BU (Am (fun Y Y=>c _ _) f) (.cons (c _ _ g) .nil)⟩
abbrev u0:List Str:=["said","faults","order","sign"]
theorem eI:Ah u0 ["said"] (Ad RK):={}
theorem Tb(R:AY):FJ 2 "ground_faults" ["said"] O3:=by
 refine R.Lk.has fun F=>F.ok eI fun H Q E Z h=>?_;obtain⟨g,I,y,b,W,rfl,M,U,vP,vW,K,J,hy,k⟩:=h;have t:=Gq Z;exists%[An (i:=1) eI.nd (AE Cd),BB y0 rfl (IH (by rfl) R.BF (#v[A8 t (pv 0) Ai])) (Di rfl (AR (Aw (i:=2) eI.nd) (AR (Aw (i:=3) eI.nd) Cp))) (Ag (AK (Ck (Ao AX (pv 3) Ai) (BK (Ao Fu Ai (D3 HH (A8 t (pv 0) Ai) IG (CW (pv 2))) #v[]))).pt (Ag (A2 (B4 zK zW zY By (pv 1) (#v[B2 (#v[Ay (Pp R) Z rfl Ar (#v[A8 t (pv 0) Ai,pv 2,A8 t (pv 0) Ai]),Ae])])))) Au)) |Aj (pv 1)];have w:∀{S:Hp}{x:Str}{v:V},Ap H S->Ba I (Sum.inr x)=some v->CO S g (.str x) (some v):=fun{S x v} sx hx=>hx▸CO.k (k:=Sum.inr x) (sx _ _ M);refine⟨zx _,fun l N=>?_⟩;have X:Ap H (Av H l (.lst [])):=Af N;have P:(Ak y).cps.size=y.length:=by simp[Ak]
 refine⟨_,rfl,g,_,rfl,w X U,Ak y,rfl,GY (fun i A H'=>E2 fun C B=>A4 (A=[some (.ref g),some (.ref l),C,B]) (Ap H H') (B7 H' l (gF y b W i)) ((gF y b W i).length<=i)) ⟨none,none,rfl,X,⟨[],Aa,.nil⟩,ze _⟩ ?_ ?_⟩
 ·rintro i c A H' T hi ⟨C,B,rfl,s,⟨as,e,f⟩,m⟩ hT;have p:y[i]?=some c:=by simpa[Ak]using hi
  have O:i<y.length:=(z8.mp p).1;have q:y.getD i 0=c:=by rw[z5,p];rfl
  have a:Ap H' (Av H' T (.tup [.int (i:Nat),.str ⟨#[c]⟩])):=Af hT;have d:=s.trans a;have u:gF y b W (i+1)=gF y b W i++cx y b W i:=by unfold gF;rw[yg,yd,yb]
  refine⟨T,_,rfl,.of Aa,rfl,_,_,rfl,_,_,rfl,rfl,DG (DI (decide (c=83)) (decide (83∈y.take i)) (fun Q' D=>⟨_,rfl,rfl,_,rfl,HK D (Dh (n:=83) rfl)⟩) (fun Y Q' D=>⟨_,rfl,g,_,rfl,w d U,_,rfl,_,rfl,Ak y,rfl,by rw[B3];exact z_ hy BN,83,Ak (y.take i),rfl,by rw[cS (wj O)],_,rfl,HK D (by rw[Bb])⟩) ?_)⟩;by_cases hc:c=83/\83∈y.take i
  ·refine BI (by rw[zj hc.1,zj hc.2];rfl) ⟨_,rfl,.inl ⟨rfl,_,AI.of (a _ _ e)⟩,_,rfl,g,_,rfl,w d vP,_,rfl,_,rfl,g,_,rfl,w d vW,b,i,W,rfl,K,J,K0,fun tn L=>?_⟩;have j:=a.trans (Af (o:= .tup [.int ((b+i+i/W:Nat):Int),.int 2]) L);have G:as.length<=i:=by rw[zE f];exact m
   exists l,_,_,rfl,rfl,j _ _ e,?_;·rw[z3];exact y2 G (zF (show i<169 by lia) BN)
   ·have r:cx y b W i=[(((b+i+i/W:Nat):Int),2)]:=by unfold cx;rw[q,zc hc]
    exists _,_,rfl,Bu (s.trans j) N,?_;·rw[u,r];exact HV j (j _ _ e) (Am (fun Y Y=>j _ _) f) Aa
    ·rw[u,r,zd];show _+1<=_;lia
  ·refine B8 (by rw[vC];intro z;rw[zp,zJ,zJ]at z;exact hc z) ?_;have r:cx y b W i=[]:=by unfold cx;rw[q,zb hc]
   exists _,_,rfl,d,?_;·rw[u,r,zR];exact⟨as,a _ _ e,Am (fun Y Y=>a _ _) f⟩
   ·rw[u,r,zR];lia
 ·rintro A H' ⟨C,B,rfl,s,hf,Y⟩;rw[P]at hf;exact⟨_,rfl,k H' l s N hf⟩
def Wv(y g:List Nat)(a w o:Nat):List (Int×Int):=if Ye (y.getD o 0) (g.getD o 0)=true then[]else[(((a+o+o/w:Nat):Int),3)]
def Za(y:List Nat)(a w o:Nat):List (Int×Int):=if y.getD o 0=75/\75∈y.take o then[(((a+o+o/w:Nat):Int),4)]else[]
def sF(y g:List Nat)(a w n:Nat):List (Int×Int):=(List.range n).flatMap fun o=>Wv y g a w o++Za y a w o
inductive R5:_|mk(sd:Addr)(kvs:List (Key×V))(y g:List Nat)(sp w:Nat):vs=[.ref sd]->H sd=some (.dK kvs)->Ba kvs (Sum.inr "start")=some (.str (Ak y))->Ba kvs (Sum.inr "ground")=some (.str (Ak g))->Ba kvs (Sum.inr "start place")=some (.int sp)->Ba kvs (Sum.inr "wide")=some (.int w)->0<w->w<=13->y.length<=169->g.length=y.length->(∀H' l,Ap H H'->H l=none->B7 H' l (sF y g sp w y.length)->Q (.ref l) H')->R5 vs H Q E
abbrev r3:List Str:=["said","faults","order","piece","place"]
theorem ZD:Ah r3 ["said"] (Ad Wp):={}
theorem Vo(R:AY):FJ 2 "start_faults" ["said"] R5:=by
 refine R.Nv.has fun F=>F.ok ZD fun H Q E hr h=>?_;obtain⟨s,a1,y,g,a,W,rfl,a4,vS,vG,vP,vW,a3,a2,hy,a6,k⟩:=h;have I:=Gq hr;exists%[An (i:=1) ZD.nd (AE Cd),BB y0 rfl (IH (by rfl) R.BF (#v[A8 I (pv 0) Ai])) (Di rfl (AR (Aw (i:=2) ZD.nd) (AR (Aw (i:=3) ZD.nd) Cp))) (%[An (i:=4) ZD.nd (Ay (Pp R) hr rfl Ar (#v[A8 I (pv 0) Ai,pv 2,A8 I (pv 0) Ai])),AK (FV (BS (Ay (QA R) hr rfl Ar (#v[pv 3,Az Eh (A8 I (pv 0) Ai) (pv 2)])))) (Ag (A2 (B4 zK zW zY By (pv 1) (#v[B2 (#v[pv 4,Ae])])))) Au|AK (Ck (Ao AX (pv 3) Ai) (BK (Ao Fu Ai (D3 HH (A8 I (pv 0) Ai) IG (CW (pv 2))) #v[]))).pt (Ag (A2 (B4 zK zW zY By (pv 1) (#v[B2 (#v[pv 4,Ae])])))) Au]) |Aj (pv 1)];have L:∀{Hx:Hp}{x:Str}{v:V},Ap H Hx->Ba a1 (Sum.inr x)=some v->CO Hx s (.str x) (some v):=fun{Hx x v} sx hx=>hx▸CO.k (k:=Sum.inr x) (sx _ _ a4);refine⟨zx _,fun l O=>?_⟩;have s1:Ap H (Av H l (.lst [])):=Af O;have a7:(Ak y).cps.size=y.length:=by simp[Ak]
 refine⟨_,rfl,s,_,rfl,L s1 vS,Ak y,rfl,GY (fun i U H'=>E3 fun v2 Z X=>A4 (U=[some (.ref s),some (.ref l),v2,Z,X]) (Ap H H') (B7 H' l (sF y g a W i)) ((sF y g a W i).length<=2*i)) ⟨none,none,none,rfl,s1,⟨[],Aa,.nil⟩,ze _⟩ ?_ ?_⟩
 ·rintro i c U H' T hi ⟨v2,Z,X,rfl,N,⟨as,q,w⟩,J⟩ hT;have K:y[i]?=some c:=by simpa[Ak]using hi
  have a5:i<y.length:=(z8.mp K).1;have r:y.getD i 0=c:=by rw[z5,K];rfl
  have D:Ap H' (Av H' T (.tup [.int (i:Nat),.str ⟨#[c]⟩])):=Af hT;have j:=N.trans D;have P:sF y g a W (i+1)=sF y g a W i++(Wv y g a W i++Za y a W i):=by unfold sF;rw[yg,yd,yb]
  have b:∀{n:Nat},n<=2*i+1->n<sizeLine:=fun{n} h=>by have:(400:Nat)<=sizeLine:=⋯;lia
  refine⟨T,_,rfl,.of Aa,rfl,_,_,rfl,_,_,rfl,rfl,_,rfl,s,_,rfl,L j vP,_,rfl,_,rfl,s,_,rfl,L j vW,a,i,W,rfl,a3,a2,Ax ?_⟩;cbv;refine EJ (fun C S=>C=[some (.ref s),some (.ref l),some (.int (i:Nat)),some (.str ⟨#[c]⟩),some (.int ((a+i+i/W:Nat):Int))]/\Ap H S/\B7 S l (sF y g a W i++Wv y g a W i)/\(sF y g a W i++Wv y g a W i).length<=2*i+1) ?_ ?_
  ·rintro C S ⟨rfl,u,⟨M,p,e⟩,B⟩;refine DG (DI (decide (c=75)) (decide (75∈y.take i)) (fun Q' q'=>⟨_,rfl,rfl,_,rfl,HK q' (Dh (n:=75) rfl)⟩) (fun Y Q' q'=>⟨_,rfl,s,_,rfl,L u vS,_,rfl,_,rfl,Ak y,rfl,by rw[B3];exact z_ hy BN,75,Ak (y.take i),rfl,by rw[cS (wj a5)],_,rfl,HK q' (by rw[Bb])⟩) ?_);by_cases hc:c=75/\75∈y.take i
   ·refine BI (by rw[zj hc.1,zj hc.2];rfl) ⟨_,rfl,.inl ⟨rfl,_,AI.of p⟩,_,rfl,K0,fun tn A=>?_⟩;have d:=Af (o:= .tup [.int ((a+i+i/W:Nat):Int),.int 4]) A;have G:M.length<=2*i+1:=by rw[zE e];exact B
    refine⟨l,_,_,rfl,rfl,d _ _ p,by rw[z3];exact b G,?_⟩;have f:Za y a W i=[(((a+i+i/W:Nat):Int),4)]:=by unfold Za;rw[r,zc hc]
    exists _,_,_,rfl,Bu (u.trans d) O,?_;·rw[P,<-zX,f];exact HV d (d _ _ p) (Am (fun Y Y=>d _ _) e) Aa
    ·rw[P,<-zX,f,zd];show _+1<=_;lia
   ·refine B8 (by rw[vC];intro z;rw[zp,zJ,zJ]at z;exact hc z) ?_;have f:Za y a W i=[]:=by unfold Za;rw[r,zb hc]
    exists _,_,_,rfl,u,?_;·rw[P,<-zX,f,zR];exact⟨M,p,e⟩
    ·rw[P,<-zX,f,zR];lia
  ·intro t;refine⟨_,rfl,_,rfl,s,_,rfl,L j vG,_,rfl,Ak g,_,g.getD i 0,rfl,rfl,by rw[B3,a6];exact z_ hy BN,Ik ∅,c,g.getD i 0,rfl,fun S s2=>⟨_,rfl,?_⟩⟩;have a0:=j.trans s2;have m:=D.trans s2;by_cases hm:Ye c (g.getD i 0)=true
   ·have f:Wv y g a W i=[]:=by unfold Wv;rw[r,zc hm]
    refine B8 (by rw[hm];rfl) (t _ _ ⟨rfl,a0,?_,?_⟩);·rw[f,zR];exact⟨as,m _ _ q,Am (fun Y Y=>m _ _) w⟩
    ·rw[f,zR];lia
   ·have f:Wv y g a W i=[(((a+i+i/W:Nat):Int),3)]:=by unfold Wv;rw[r,zb hm]
    rw[y4]at hm;refine BI (by rw[hm];rfl) ⟨_,rfl,.inl ⟨rfl,_,AI.of (m _ _ q)⟩,_,rfl,K0,fun tn A=>?_⟩;have d:=m.trans (Af (o:= .tup [.int ((a+i+i/W:Nat):Int),.int 3]) A);have G:as.length<=2*i:=by rw[zE w];exact J
    refine⟨l,_,_,rfl,rfl,d _ _ q,by rw[z3];exact b ∅,t _ _ ⟨rfl,Bu (N.trans d) O,?_,?_⟩⟩;·rw[f];exact HV d (d _ _ q) (Am (fun Y Y=>d _ _) w) Aa
    ·rw[f,zd];show _+1<=_;lia
 ·rintro U H' ⟨v2,Z,X,rfl,N,hf,Y⟩;rw[a7]at hf;exact⟨_,rfl,k H' l N O hf⟩
inductive Kw:_|mk(sd:Addr)(kvs:List (Key×V))(y:List Nat)(w h o:Nat):vs=[.ref sd]->H sd=some (.dK kvs)->Ba kvs (Sum.inr "start")=some (.str (Ak y))->Ba kvs (Sum.inr "wide")=some (.int w)->Ba kvs (Sum.inr "high")=some (.int h)->0<w->w<=13->y[o]?=some 75->(∀k,k<o->¬y[k]?=some 75)->(∀H',Ap H H'->Q (.bl (decide (o%w=0\/o%w+1=w\/o/w=0\/o/w+1=h))) H')->Kw vs H Q E
theorem lP:Ah ["said","order"] ["said"] (Ad RI):={}
theorem NS(u:AY):FJ 2 "starts_on_edge" ["said"] Kw:=by
 refine u.Kg.has fun F=>F.ok lP fun H Q E s h=>?_;obtain⟨b,l,y,W,T,o,rfl,m,w,j,z,G,D,t,f,k⟩:=h;have d:=Gq s;have g:∀{p:Hp}{x:Str}{v:V},Ap H p->Ba l (Sum.inr x)=some v->CO p b (.str x) (some v):=fun{p x v} A C=>C▸CO.k (k:=Sum.inr x) (A _ _ m);have c:=AQ H;exists%[An (i:=1) lP.nd (B4 yc PySem.F.slot_str_index PySem.F.type_str_index Yb (A8 d (pv 0) Ai) (#v[Ai])) |Aj (Ay (Nf u) s rfl Ar (#v[A9 ME (pv 1) (A8 d (pv 0) Ai),A9 IK (pv 1) (A8 d (pv 0) Ai),A8 d (pv 0) Ai,A8 d (pv 0) Ai]))];obtain⟨a,e⟩:∃a,Builtin.Str.occurrences (Ak y) ("K":Str) 0 (Ak y).length 1=o::a:=by
  rcases So y 75 with⟨Y,n⟩ |⟨i,r,J,n,I⟩;·exact absurd t (n o)
  ·have:i=o:=by
    by_cases q:i<o;·exact absurd n (f i q)
    ·by_cases q2:o<i;·exact absurd t (I o q2)
     ·lia
   subst this;exact⟨r,J⟩
 exists _,rfl,b,V.str (Ak y),rfl,g c w,rfl,Ak y,"K",o,a,rfl,rfl,e;have L:(o:Int)/(W:Int)=((o/W:Nat):Int):=by first|exact(tz o W).symm|exact(Int.ofNat_ediv o W).symm
 have K:(o:Int)%(W:Int)=((o%W:Nat):Int):=by first|exact(tq o W).symm|exact(Int.ofNat_emod o W).symm
 refine⟨_,rfl,_,rfl,b,V.int W,rfl,g c j,_,_,rfl,rfl,∅,_,rfl,_,rfl,b,V.int W,rfl,g c j,_,_,rfl,rfl,⟨∅,∅⟩,_,rfl,b,V.int W,rfl,g c j,_,rfl,b,V.int T,rfl,g c z,o%W,o/W,W,T,?_,fun H' B=>k H' B⟩;rw[L,K];rfl
def fB(w h c:Nat):List V:=[V.int (UZ w h c 0),V.int (UZ w h c 1),V.int (UZ w h c 2),V.int (UZ w h c 3)]
inductive VZ:_|mk(c w h:Nat):vs=[.int c,.int w,.int h]->(∀H' l,Ap H H'->H l=none->H' l=some (.lst (fB w h c))->Q (.ref l) H')->VZ vs H Q E
theorem KP{k h g:TE}{f:L2.St}{Q:VK}{a b c:Int}(n:∀d:VK,d (.int a) H->k f H d)(m:∀d:VK,d (.int b) H->h f H d)(l:∀d:VK,d (.int c) H->g f H d)(q:Q (.bl (decide (a<=b)&&decide (b<c))) H):Zt (W4 fun i j=> .bl (decide (i<=j))) (W4 fun i j=> .bl (decide (i<j))) k h g f H Q:=by refine n _ (m _ ⟨a,b,rfl,rfl,_,rfl,?_⟩);cases e:decide (a<=b)with|true=>rw[e]at q;exact BI rfl (l _ ⟨b,c,rfl,rfl,q⟩) |false=>rw[e]at q;exact B8 rfl q
theorem Rz{d c:TE}{b:L2.St}{Q:VK}(x y:Bool)(f:∀a:VK,a (.bl x) H->d b H a)(e:x=true->∀a:VK,a (.bl y) H->c b H a)(q:Q (.bl (x&&y)) H):Zv d c b H Q:=by refine f _ ⟨x,rfl,?_⟩;cases x with|true=>exact BI rfl (e rfl _ q) |false=>exact B8 rfl q
theorem eT{c:TE}{g:TG}{D:Ends}{b:L2.St}(h:c b H fun v d=>g v b d fun a H'=>D.nx a H'):Ry c g D b H:=h
theorem fz(W T c i:Nat):((fB W T c).take i).length<sizeLine:=by have h:(fB W T c).length=4:=rfl;rw[zO,h];exact y2 (xH _ _) ⋯
theorem bw(W T c:Nat):∀i,i<4->(fB W T c).take (i+1)=(fB W T c).take i++[V.int (UZ W T c i)]:=by intro i h;unfold fB;have:i=0\/i=1\/i=2\/i=3:=∅;rcases this with rfl|rfl|rfl|rfl<;>simp
theorem bx(W T c i:Nat)(b:Bool)(a:((decide ((0:Int)<=((c%13:Nat):Int)+Dz i)&&decide (((c%13:Nat):Int)+Dz i<(W:Int)))&&(decide ((0:Int)<=((c/13:Nat):Int)+Dy i)&&decide (((c/13:Nat):Int)+Dy i<(T:Int))))=b):UZ W T c i=if b=true then 13*(((c/13:Nat):Int)+Dy i)+(((c%13:Nat):Int)+Dz i)else-1:=by unfold UZ;generalize((c/13:Nat):Int)+Dy i=h at a|-;generalize((c%13:Nat):Int)+Dz i=j at a|-;cases b with|true=>rw[zp,zp,zp,zJ,zJ,zJ,zJ]at a;rw[zc ⟨a.1.1,a.1.2,a.2.1,a.2.2⟩,zc rfl] |false=>rw[zb (c:=(false=true)) ⋯,zb];rintro⟨g,f,e,d⟩;rw[zj g,zj f,zj e,zj d]at a;cases a
abbrev tp:List Str:=["cell","wide","high","found","dx","dy","x","y","inside"]
theorem UA:Ah tp ["cell","wide","high"] (Ad ZQ):={}
theorem Ys(m:AY):FJ 1 "neighbours" ["cell","wide","high"] VZ:=by
 obtain⟨N,L,J,I,G,hS,M,U,S,R,P⟩:=m.steps;refine m.QN.has fun F=>F.ok UA fun H Q E hr h=>?_;obtain⟨c,W,T,rfl,k⟩:=h;exists%[An (i:=3) UA.nd (AE Cd),BB y0 rfl (Ql (AB (v:= .ref N) rfl hS rfl)) (Di rfl (AR (Aw (i:=4) UA.nd) (AR (Aw (i:=5) UA.nd) Cp))) (%[An (i:=6) UA.nd (A9 Ce (A9 ME (pv 0) (AB (v:= .int 13) rfl (C2 m.Dc) ⟨_,rfl⟩)) (pv 4)),An (i:=7) UA.nd (A9 Ce (A9 IK (pv 0) (AB (v:= .int 13) rfl (C2 m.Dc) ⟨_,rfl⟩)) (pv 5)),An (i:=8) UA.nd (MC (Sj aX FA Ae (pv 6) (pv 1)) (ED (Sj aX FA Ae (pv 7) (pv 2)))) |A2 (B4 zK zW zY By (pv 3) (#v[D4 (BS (pv 8)) (A9 Ce (A9 Ec (AB (v:= .int 13) rfl (C2 m.Dc) ⟨_,rfl⟩) (pv 7)) (pv 6)) (AB (v:= .int (-1)) rfl (C2 m.Fd) ⟨_,rfl⟩)]))]) |Aj (pv 3)];refine⟨zx _,fun l B=>?_⟩;refine⟨N,rfl,⟨_,M.sq _⟩,WW (xs:=[.ref L,.ref J,.ref I,.ref G]) (fun i o H'=>∃w u t s r,o=[some (.int (c:Nat)),some (.int (W:Nat)),some (.int (T:Nat)),some (.ref l),w,u,t,s,r]/\Ap H H'/\H' l=some (.lst ((fB W T c).take i))) ⟨none,none,none,none,none,rfl,Af B,Aa⟩ (fun i o H' Y Y=>M.sq _) ?_ ?_⟩
 ·rintro i v o H' d ⟨w,u,t,s,r,rfl,x,a⟩;have n:i<4:=(z8.mp d).1;obtain⟨p,Z,O⟩:∃p,v= .ref p/\BQ K p [.int (Dz i),.int (Dy i)]:=by match i,n,d with|0,_,d=>cases d;exact⟨L,rfl,U⟩ |1,_,d=>cases d;exact⟨J,rfl,S⟩ |2,_,d=>cases d;exact⟨I,rfl,R⟩ |3,_,d=>cases d;exact⟨G,rfl,P⟩
  subst Z;have d1:(c:Int)/13=((c/13:Nat):Int):=∅;have d2:(c:Int)%13=((c%13:Nat):Int):=∅;refine⟨p,_,rfl,O.sq _,rfl,_,_,rfl,_,_,rfl,rfl,_,rfl,_,_,rfl,rfl,(by show(0:Int)<13;decide),_,rfl,_,_,rfl,rfl,_,rfl,_,_,rfl,rfl,⟨⋯,⋯⟩,_,rfl,_,_,rfl,rfl,Ax ?_⟩;cbv;rw[d1,d2];refine CS (eT (Rz (decide ((0:Int)<=((c%13:Nat):Int)+Dz i)&&decide (((c%13:Nat):Int)+Dz i<(W:Int))) (decide ((0:Int)<=((c/13:Nat):Int)+Dy i)&&decide (((c/13:Nat):Int)+Dy i<(T:Int))) (fun Q' y=>KP (fun Y q=>q) (fun Y q=>⟨_,rfl,q⟩) (fun Y q=>⟨_,rfl,q⟩) y) (fun Y Q' y=>KP (fun Y q=>q) (fun Y q=>⟨_,rfl,q⟩) (fun Y q=>⟨_,rfl,q⟩) y) ?_));generalize C:((decide ((0:Int)<=((c%13:Nat):Int)+Dz i)&&decide (((c%13:Nat):Int)+Dz i<(W:Int)))&&(decide ((0:Int)<=((c/13:Nat):Int)+Dy i)&&decide (((c/13:Nat):Int)+Dy i<(T:Int))))=D;have f:=fz W T c i;have g:=bw W T c i n;have b:=bx W T c i D C;generalize UZ W T c i=A at g b;generalize((c/13:Nat):Int)+Dy i=yy at b|-;generalize((c%13:Nat):Int)+Dz i=xx at b|-;generalize(fB W T c).take (i+1)=j at g|-;generalize(fB W T c).take i=e at*;have fin:∀z,z=A->Ap H (Av H' l (.lst (e++[V.int z])))/\(Av H' l (.lst (e++[V.int z]))) l=some (.lst j):=fun z X=>by subst X;exact⟨Bu x B,by rw[Aa,g]⟩
  exists _,rfl,.inl ⟨rfl,_,AI.of a⟩,_,rfl,D,rfl;cases D with|true=>exact BI rfl ⟨_,rfl,_,_,rfl,rfl,.inl ⟨⋯,⋯⟩,_,rfl,_,_,rfl,rfl,l,_,_,rfl,rfl,a,f,_,_,_,_,_,rfl,fin _ b.symm⟩ |false=>refine B8 rfl ⟨l,_,_,rfl,rfl,a,f,?_⟩;exact⟨_,_,_,_,_,rfl,fin _ b.symm⟩
 ·rintro o H' ⟨w,u,t,s,r,rfl,x,a⟩;exact⟨_,rfl,k H' l x B a⟩
theorem GW(c:Nat):∀y:List Nat,c∈y->y[y.idxOf c]?=some c/\∀k,k<y.idxOf c->¬y[k]?=some c
|[],h=>by cases h
|x::y,h=>by
 rw[um];by_cases e:x=c;·subst e;rw[xG,cond_true];exact⟨rfl,fun k a=>absurd a (xc _)⟩
 ·rw[zL.mpr e,rm];have b:c∈y:=by
   rcases zw.mp h with z|z;·exact absurd z.symm e
   ·exact z
  obtain⟨f,d⟩:=GW c y b;refine⟨‹f›,fun k a q=>?_⟩;cases k with|zero=>exact e (zt q) |succ k=>exact d k ∅ ‹q›
def Ct(a:Nat)(y g:List Nat)(w h:Nat):Bool:=if a=1 then !decide (88∈g)else decide (75∈y)&&decide (y.idxOf 75%w=0\/y.idxOf 75%w+1=w\/y.idxOf 75/w=0\/y.idxOf 75/w+1=h)
inductive Wf:_|mk(sd:Addr)(kvs:List (Key×V))(y g:List Nat)(w h goal gp:Nat):vs=[.ref sd]->H sd=some (.dK kvs)->Ba kvs (Sum.inr "start")=some (.str (Ak y))->Ba kvs (Sum.inr "ground")=some (.str (Ak g))->Ba kvs (Sum.inr "wide")=some (.int w)->Ba kvs (Sum.inr "high")=some (.int h)->Ba kvs (Sum.inr "goal")=some (.int goal)->Ba kvs (Sum.inr "goal place")=some (.int gp)->0<w->w<=13->(∀H' l,Ap H H'->H l=none->B7 H' l (if Ct goal y g w h=true then[((gp:Int),5)]else[])->Q (.ref l) H')->Wf vs H Q E
theorem jl:Ah ["said","at_fault"] ["said"] (Ad ZV):={}
theorem Yv(I:AY):FJ 3 "goal_faults" ["said"] Wf:=by
 refine I.NZ.has fun F=>F.ok jl fun H Q E C h=>?_;obtain⟨c,m,y,g,W,T,a,G,rfl,n,A,O,K,N,M,L,t,s,k⟩:=h;have q:=Gq C;have r:∀{w:Hp}{x:Str}{v:V},Ap H w->Ba m (Sum.inr x)=some v->CO w c (.str x) (some v):=fun{w x v} R Z=>Z▸CO.k (k:=Sum.inr x) (R _ _ n);have j:=AQ H;exists%[AK (Ao AX (A8 q (pv 0) Ai) Ae) (Ag (An (i:=1) jl.nd (Bn Dt Ai (A8 q (pv 0) Ai) #v[]))) (Ag (An (i:=1) jl.nd (MC (Bn Fu Ai (A8 q (pv 0) Ai) #v[]) (ED (Ay (NS I) C rfl Ar (#v[pv 0])))))) |Aj (D4 (BS (pv 1)) (AE (#v[B2 (#v[A8 q (pv 0) Ai,Ae])])) (AE Cd))];refine EJ (fun f J=>f=[some (.ref c),some (.bl (Ct a y g W T))]/\Ap H J) ?_ ?_;·rintro f J ⟨rfl,p⟩;exists _,rfl,_,rfl;cases D:Ct a y g W T with|true=>rw[D,zc rfl]at k;refine BI rfl ⟨_,rfl,c,V.int G,rfl,r p L,K0,fun P u=>⟨Js,fun l d=>?_⟩⟩;have B:=p.trans (Af (o:= .tup [.int G,.int 5]) u);refine k _ l (B.trans (Af d)) (B.free d) ⟨[P],Aa,.cons ?_ .nil⟩;exact Af d _ _ Aa|false=>rw[D,zb ⋯]at k;exact B8 rfl ⟨zx _,fun l d=>k _ l (p.trans (Af d)) (p.free d) ⟨[],Aa,.nil⟩⟩
 ·intro b;exists _,rfl,c,V.int a,rfl,r j M,rfl,_,rfl;by_cases hg:a=1
  ·refine BI (zj (by rw[hg];rfl)) ⟨_,rfl,c,V.str (Ak g),rfl,r j O,88,Ak g,rfl,rfl,?_⟩;refine b _ _ ⟨?_,j⟩;have e:(!decide (88∈(Ak g).cps.toList))=Ct a y g W T:=by unfold Ct;rw[zc hg,Bb]
   rw[<-e];rfl
  ·refine B8 (zo (by intro z;injection z with z;exact hg ∅)) ⟨_,rfl,c,V.str (Ak y),rfl,r j A,75,Ak y,rfl,rfl,_,rfl,?_⟩;by_cases hK:75∈y
   ·refine BI (by rw[Bb];exact zj hK) ?_;obtain⟨X,U⟩:=GW 75 y hK;refine⟨_,rfl,c,m,y,W,T,y.idxOf 75,rfl,n,A,K,N,t,s,X,U,fun H' S=>b _ _ ⟨?_,S⟩⟩;have e:Ct a y g W T=decide (y.idxOf 75%W=0\/y.idxOf 75%W+1=W\/y.idxOf 75/W=0\/y.idxOf 75/W+1=T):=by unfold Ct;rw[zb hg,zj hK,wB]
    rw[e];rfl
   ·refine B8 (by rw[Bb];exact zo hK) (b _ _ ⟨?_,j⟩);have e:Ct a y g W T=false:=by unfold Ct;rw[zb hg,zo hK,xM]
    rw[e];rfl
abbrev Bd:=List Nat×Nat
def pB(q:Bd):Tafl.Pos:=Aq q.1 q.2
def EE(q:Bd):List Key:=[.inr (Ak q.1),.inl (q.2:Int)]
structure Cu(r:Rules)(q:Bd):Prop where
 b:AZ q.1
 r:Right r q.1
 t:q.2<=1
theorem X0{a:List Nat}(h:Ak a=Ak b):a=b:=by have:=zT (fun s:Str=>s.cps.toList) h;simpa[Ak]using this
theorem SH{p q:Bd}:EE p=EE q↔p=q:=by
 constructor;·intro h;unfold EE at h;injection h with h1 h2;injection h2 with h2 _;injection h1 with h1;injection h2 with h2;exact qu (X0 h1) ∅
 ·intro h;rw[h]
theorem aU{r:Rules}{p q:Bd}(b:Cu r p)(a:Cu r q):pB p=pB q↔p=q:=by
 constructor;·intro h;obtain⟨d,c⟩:=HM.XI b.b a.b h;exact qu d c
 ·intro h;rw[h]
def Bj(r:Rules)(q:Bd):List Bd:=(r.moves (pB q)).map fun m=>(NB r q.1 m,1-q.2)
theorem GP{r:Rules}{q:Bd}(h:Cu r q){m:Nat×Nat}(a:m∈r.moves (pB q)):m∈hX r q.1 q.2:=by
 unfold pB at a;rw[ML h.b h.t]at a;split at a;·cases a
 ·exact a
theorem N5{r:Rules}(Z:B0 r)(N:Of r){q:Bd}(h:Cu r q){m:Nat×Nat}(a:m∈r.moves (pB q)):Cu r (NB r q.1 m,1-q.2)/\r.comes (pB q) m=pB (NB r q.1 m,1-q.2):=by obtain⟨d,c,b⟩:=dg Z N h.b h.r h.t (GP h a);exact⟨⟨d,c,Nat.sub_le _ _⟩,b⟩
theorem OZ{r:Rules}(Z:B0 r)(N:Of r){q:Bd}(h:Cu r q):∀p∈Bj r q,Cu r p:=by intro p a;obtain⟨m,b,rfl⟩:=zk.mp a;exact(N5 Z N h b).1
theorem Ny{r:Rules}(Z:B0 r)(N:Of r){q:Bd}(h:Cu r q):r.comesTo (pB q)=(Bj r q).map pB:=by unfold Rules.comesTo Bj;rw[zG];exact y6 fun m a=>(N5 Z N h a).2
def B9(a:List Bd)(l:List Bd):List Bd:=l.foldl (fun a q=>if q∈a then a else a++[q]) a
theorem Ha(a:List Bd)(q:Bd)(l:List Bd):B9 a (q::l)=B9 (if q∈a then a else a++[q]) l:=rfl
theorem YT(a l:List Bd)(q:Bd):B9 a (l++[q])=if q∈B9 a l then B9 a l else B9 a l++[q]:=by unfold B9;rw[uW];rfl
theorem Jp:∀(l a:List Bd),∃e,B9 a l=a++e
|[],a=>⟨[],by simp[B9]⟩
|q::l,a=>by
 rw[Ha];split;·exact Jp l a
 ·obtain⟨e,b⟩:=Jp l (a++[q]);exact⟨q::e,by rw[b,zX];rfl⟩
theorem Fh:∀(l b:List Bd)(q:Bd),q∈B9 b l↔q∈b\/q∈l
|[],b,q=>by simp[B9]
|x::l,b,q=>by
 rw[Ha,Fh l];split
 ·rename_i h;constructor
  ·rintro(a|a);·exact .inl a
   ·exact .inr (zg _ a)
  ·rintro(a|a);·exact .inl a
   ·rcases zw.mp a with rfl|a;·exact .inl h
    ·exact .inr a
 ·rw[zD,zB,zw,qo]
theorem HZ:∀(l c:List Bd),c.Nodup->(B9 c l).Nodup
|[],c,h=>h
|q::l,c,h=>by
 rw[Ha];split;·exact HZ l c h
 ·rename_i e;refine HZ l _ (yZ.mpr ⟨h,by simp,fun a d b f=>?_⟩);rw[zB.mp f];intro z;rw[z]at d;exact e d
theorem KQ(l a:List Bd):a.length<=(B9 a l).length:=by obtain⟨e,b⟩:=Jp l a;rw[b,zd];lia
theorem QZ(a l:List Bd)(i:Nat):(B9 a (l.take i)).length<=(B9 a l).length:=by
 have:B9 a l=B9 (B9 a (l.take i)) (l.drop i):=by unfold B9;rw[<-uW,sI]
 rw[this];exact KQ _ _
theorem Kq{r:Rules}:∀(l a:List Bd),(∀p∈a,Cu r p)->(∀p∈l,Cu r p)->addNew (a.map pB) (l.map pB)=(B9 a l).map pB
|[],a,_,_=>rfl
|q::l,a,d,j=>by
 have i:=j q zh;have b:=fun p h=>j p (zg _ h);have e:((a.map pB).contains (pB q)=true)↔q∈a:=by
  rw[xY,zk];constructor;·rintro⟨p,f,k⟩;rw[(aU (d p f) i).mp k]at f;exact f
  ·intro h;exact⟨q,h,rfl⟩
 have m:addNew (a.map pB) ((q::l).map pB)=addNew (if(a.map pB).contains (pB q)=true then a.map pB else a.map pB++[pB q]) (l.map pB):=rfl;rw[m,Ha];by_cases h:q∈a;·rw[zc (e.mpr h),zc h];exact Kq l a d b
 ·rw[zb (fun z=>h (e.mp z)),zb h];rw[show a.map pB++[pB q]=(a++[q]).map pB by rw[zu];rfl];refine Kq l _ (fun p c=>?_) b;rcases zD.mp c with g|g;·exact d p g
  ·rw[zB.mp g];exact i
def IW(a:List Bd):List (List Key×V):=a.zipIdx.map fun x=>(EE x.1,V.int (x.2:Nat))
theorem K7(q:Bd):∀(a:List Bd)(n:Nat),Ba ((a.zipIdx n).map fun x=>(EE x.1,V.int (x.2:Nat))) (EE q)=if q∈a then some (V.int ((n+a.idxOf q:Nat):Int))else none
|[],n=>by simp[Zj]
|p::a,n=>by
 rw[List.zipIdx_cons,zH];by_cases h:p=q;·subst h;rw[BY rfl];simp[List.idxOf_cons_self]
 ·rw[BZ (fun z=>h (SH.mp z)),K7 q a (n+1)];by_cases h2:q∈a;·rw[zc h2,zc (zg _ h2),um,zL.mpr h,rm];congr 3;lia
  ·rw[zb h2,zb];intro z;rcases zw.mp z with z|z;·exact h z.symm
   ·exact h2 z
theorem Qy(a:List Bd)(q:Bd):Ba (IW a) (EE q)=if q∈a then some (V.int ((a.idxOf q:Nat):Int))else none:=by have:=K7 q a 0;rw[xQ]at this;exact this
theorem fQ{b:List Bd}{q:Bd}(h:q∉b):putK (IW b) (EE q) (V.int (b.length:Nat))=IW (b++[q]):=by
 unfold putK;rw[zb];·unfold IW;rw[List.zipIdx_append,zu];simp
 ·intro z;rw[xq]at z;obtain⟨g,f,e⟩:=z;obtain⟨x,d,rfl⟩:=zk.mp f;have:=SH.mp (vt e);obtain⟨a,i⟩:=x;have c:a∈b:=List.fst_mem_of_mem_zipIdx d;dsimp only at this;rw[this]at c;exact h c
theorem fR(a:List Bd):(IW a).length=a.length:=by simp[IW]
theorem WR{a:List Bd}{q:Bd}(h:q∈a)(e:List Bd):(a++e).idxOf q=a.idxOf q:=by rw[List.idxOf_append,zc h]
def T3(a b c:Addr):List (Str×V):=[("positions",.ref a),("numbers",.ref b),("follows",.ref c)]
theorem Kf(a b c):(T3 a b c).lookup ("positions":Str)=some (.ref a):=#v[]
theorem V1(b a c):(T3 b a c).lookup ("numbers":Str)=some (.ref a):=#v[]
theorem QH(b c a):(T3 b c a).lookup ("follows":Str)=some (.ref a):=#v[]
theorem Y9(a b c):(T3 a b c).lookup ("follow":Str)=none:=#v[]
def gD(H:Hp)(c:Addr)(b:List Bd):Prop:=∃a:List Addr,H c=some (.lst (a.map V.ref))/\Paired (fun t (q:Bd)=>Dd H t q.1 q.2) a b
def gI(H:Hp)(b c:Addr)(a:List Addr)(d:List (List Nat)):Prop:=H b=some (.lst (a.map V.ref))/\Paired (fun g e=>H g=some (.lst (nV e))) a d/\∀g∈a,g≠c/\g≠b
structure dz(C:Addr)(H:Hp)(e pl nd fl:Addr)(ps:List Bd)(fs:List (List Nat)):Prop where
 o:∃dx,H e=some (.ins C dx (T3 pl nd fl))
 p:gD H pl ps
 n:H nd=some (.dT (IW ps))
 f:∃gs,gI H fl pl gs fs
 pf:pl≠fl
inductive R9(C CE CT:Addr):_|mk(H0:Hp)(e a t pl nd fl:Addr)(r:Rules)(ps:List Bd)(fs:List (List Nat))(q:Bd)(most:Nat):vs=[.ref e,.ref a,.ref t,.int most]->Ap H0 H->H0 pl=none->H0 nd=none->H0 fl=none->Bf C H0 a r->dz CE H e pl nd fl ps fs->Dd H t q.1 q.2->Cu r q->ps.length<=most->most<=200->fs.length<=200->(if most<(B9 ps (Bj r q)).length then Ref CT [-9] H0 E else∀H',dz CE H' e pl nd fl (B9 ps (Bj r q)) (fs++[(Bj r q).map (B9 ps (Bj r q)).idxOf])->Ap H0 H'->Q .Bz H')->R9 C CE CT vs H Q E
theorem C7{l:Addr}{o o':HO}(h:H l=some o)(n:∀xs,o≠ .tup xs):∀b xs,H b=some (.tup xs)->Av H l o' b=some (.tup xs):=fun b xs e=>by
 rw[Ac];·exact e
 ·intro z;rw[z,h]at e;exact n xs (zt e)
theorem FX(h:∀b xs,H b=some (.tup xs)->H' b=some (.tup xs)){c:List Addr}{d:List Bd}(p:Paired (fun t (q:Bd)=>Dd H t q.1 q.2) c d):Paired (fun t (q:Bd)=>Dd H' t q.1 q.2) c d:=Am (fun a b z=>h a _ z) p
theorem bg{r:Rules}{q:Bd}:(Bj r q).length=(r.moves (pB q)).length:=by simp[Bj]
theorem WI{r:Rules}(Z:B0 r)(R:Right r b){s:Nat}(c:s<=1):∀n,n<=169->((List.range n).flatMap (Zc r b s)).length<=52*n
|0,_=>ze _
|n+1,h=>by
 rw[yg,yd,zd,yb];have d:=WI Z R c n ∅;have:(Zc r b s n).length<=52:=by
  unfold Zc;split;·rename_i a;rw[z3];exact Jg Z (R n ∅ (by intro z;rcases JI c a with⟨Y,h⟩ |⟨Y,h|h⟩<;>rw[z]at h<;>cases h)).1
  ·exact zx _
 lia
theorem MG{r:Rules}(Z:B0 r){q:Bd}(h:Cu r q):(Bj r q).length<=8788:=by
 rw[bg];unfold pB;rw[ML h.b h.t];split;·exact zx _
 ·exact WI Z h.r h.t 169 (ze _)
theorem O9:(8788:Nat)<sizeLine:=⋯
theorem Ea{e d:Type}{R:e->d->Prop}{c:List e}{f:List d}(p:Paired R c f):Paired (fun a b=>a∈c/\R a b) c f:=by induction p with|nil=>exact .nil|cons h _ g=>exact .cons ⟨zh,h⟩ (Am (fun a b z=>⟨zg _ z.1,z.2⟩) g)
abbrev u1:List Str:=["self","hall","position","most","reached","move","later"]
theorem eJ:Ah u1 ["self","hall","position","most"] (Ad Wu):={}
theorem Vs(G:AY):jY 6 aE "follow" ["self","hall","position","most"] (R9 aH aE aT):=by
 refine G.MT.has fun F=>F.Ju eJ fun H Q E hr h hx=>?_;obtain⟨H0,e,a,t,D,s,fl,r,O,fs,q,A,rfl,c5,f6,f7,f8,hA,hG,ht,hq,e5,hm,h0,k⟩:=h;obtain⟨⟨dx,he⟩,⟨ts,b1,f4⟩,K,⟨gs,b3,c6,d2⟩,pf⟩:=hG;have hu:=Gq hr;exists%[An (i:=4) eJ.nd (AE Cd),BB Br rfl (BL (Ay (JX G) hr rfl Ar (#v[pv 1,pv 2]))) (Aw (i:=5) eJ.nd) (%[An (i:=6) eJ.nd (Ay (Y2 G) hr rfl Ar (#v[pv 1,pv 2,pv 5])),AK (az (OU hu (pv 6) (Al (pv 0)))) (%[AK (Ao bb (AN AU G.D6 y8 (#v[Al (pv 0)])) (pv 3)) (Ag (DZ (KJ G) (hr.mono ⋯:AV 3 _).h rfl rfl hx)) Au,CV hu (Al (pv 0)) (pv 6) (AN AU G.D6 y8 (#v[Al (pv 0)])) rfl|A2 (B4 zK zW zY By (Al (pv 0)) (#v[pv 6]))]) Au|A2 (B4 zK zW zY By (pv 4) (#v[A8 hu (Al (pv 0)) (pv 6)]))]) |A2 (B4 zK zW zY By (Al (pv 0)) (#v[pv 4]))];refine⟨zx _,fun Z B=>?_⟩;have s1:Ap H (Av H Z (.lst [])):=Af B;have f3:=c5.trans s1;refine⟨_,rfl,_,rfl,a,t,r,q.1,q.2,rfl,hA.same f3,s1 _ _ ht,hq.b,hq.r,hq.t,fun H2 mq s2 X g8=>?_⟩;obtain⟨as,c0,f5⟩:=g8;have N:=s1.trans s2;have w:Z≠D:=fun z=>by rw[z,b1]at B;cases B
 have y:Z≠fl:=fun z=>by rw[z,b3]at B;cases B
 have P:Z≠s:=fun z=>by rw[z,K]at B;cases B
 have a7:mq≠D:=fun z=>by rw[z,s1 _ _ b1]at X;cases X
 have d7:mq≠fl:=fun z=>by rw[z,s1 _ _ b3]at X;cases X
 have a8:mq≠s:=fun z=>by rw[z,s1 _ _ K]at X;cases X
 have a6:mq≠Z:=fun z=>by rw[z,Aa]at X;cases X
 have R:s≠D:=fun z=>by rw[z,b1]at K;cases K
 have S:s≠fl:=fun z=>by rw[z,b3]at K;cases K
 have c7:∀{l:Addr}{o:HO},H l=some o->(∀C dx fs,o≠ .ins C dx fs)->e≠l:=fun{l o} h n z=>by rw[<-z,he]at h;exact n _ _ _ (zt h).symm
 have b5:e≠D:=c7 b1 (by intro Y Y Y z;cases z);have a2:e≠s:=c7 K (by intro Y Y Y z;cases z);have b4:e≠Z:=fun z=>by rw[<-z,he]at B;cases B
 have h5:∀{l:Addr}{o:HO},H l=some o->(∀xs,o≠ .tup xs)->t≠l:=fun{l o} h n z=>by rw[<-z,show H t=_ from ht]at h;exact n _ (zt h).symm
 have e8:∀g∈gs,∃L,H g=some (.lst (nV L)):=by
  have h3:∀{gs:List Addr}{fs:List (List Nat)},Paired (fun g L=>H g=some (.lst (nV L))) gs fs->∀g∈gs,∃L,H g=some (.lst (nV L)):=by
   intro gs fs p;induction p with
   |nil=>intro g u;cases u
   |cons h _ ih=>
    intro g u;rcases zw.mp u with rfl|u;·exact⟨_,h⟩
    ·exact ih g u
  exact h3 c6
 have e9:∀g∈gs,g≠Z:=fun g u z=>by obtain⟨L,h⟩:=e8 g u;rw[z,B]at h;cases h
 have f0:∀g∈gs,g≠s:=fun g u z=>by obtain⟨L,h⟩:=e8 g u;rw[z,K]at h;cases h
 have d6:H0 Z=none:=c5.free B;let nx:=Bj r q;let f1:Nat->Hp->Prop:=fun i H'=>Ap H0 H'/\H' e=some (.ins aE dx (T3 D s fl))/\gD H' D (B9 O (nx.take i))/\H' s=some (.dT (IW (B9 O (nx.take i))))/\H' fl=some (.lst (gs.map V.ref))/\(∀g L,g∈gs->H g=some (.lst (nV L))->H' g=some (.lst (nV L)))/\Dd H' t q.1 q.2/\H' mq=some (.lst (as.map V.ref))/\Paired (fun a (m:Nat×Nat)=>H_ H' a m.1 m.2) as (r.moves (pB q))/\(B9 O (nx.take i)).length<=A;refine⟨mq,rfl,⟨_,AI.of c0⟩,Gy (xs:=as.map V.ref) (fun i σ H'=>E2 fun v5 v6=>A3 (σ=[some (.ref e),some (.ref a),some (.ref t),some (.int (A:Nat)),some (.ref Z),v5,v6]) (f1 i H') (H' Z=some (.lst (nV ((nx.take i).map (B9 O (nx.take i)).idxOf))))) ⟨none,none,rfl,⟨c5.trans N,N _ _ he,⟨ts,N _ _ b1,FX (fun b xs z=>N _ _ z) f4⟩,N _ _ K,N _ _ b3,fun g L Y z=>N _ _ z,N _ _ ht,c0,f5,e5⟩,s2 _ _ Aa⟩ (fun i σ H' Y ⟨_,_,_,z,_⟩=>AI.of z.2.2.2.2.2.2.2.1) ?_ ?_⟩
 ·rintro i v σ H' hi ⟨v5,v6,rfl,⟨i0,ie,ip,a0,a4,ig,it,c8,T,J⟩,b0⟩;obtain⟨ma,g9,rfl⟩:∃ma,as[i]?=some ma/\v= .ref ma:=by rw[z7,zy]at hi;obtain⟨c,e,rfl⟩:=hi;exact⟨c,e,rfl⟩
  obtain⟨⟨m1,m2⟩,e4,d0⟩:=AA T g9;have c3:=zf e4;obtain⟨d1,Y⟩:=N5 hA.Z hA.N hq c3;obtain⟨MO,c1,c2,Y⟩:=Qs hA.Z hq.b hq.r hq.t (GP hq c3);have b9:nx[i]?=some (NB r q.1 (m1,m2),1-q.2):=by show(Bj r q)[i]?=_;unfold Bj;rw[z7,e4];rfl
  refine⟨_,rfl,_,rfl,_,rfl,a,t,ma,r,q.1,q.2,m1,m2,rfl,hA.same i0,it,d0,hq.b.len,MO.l1,c2,hq.t,fun H3 t3 f e2 g6=>?_⟩;generalize g7:((NB r q.1 (m1,m2),1-q.2):Bd)=I at b9 d1;have W:Dd H3 t3 I.1 I.2:=by rw[<-g7];exact g6
  have b7:nx.take (i+1)=nx.take i++[I]:=by rw[yi,b9];rfl
  have d:B9 O (nx.take (i+1))=if I∈B9 O (nx.take i)then B9 O (nx.take i)else B9 O (nx.take i)++[I]:=by rw[b7,YT]
  have e6:=QZ O nx (i+1);generalize e3:B9 O (nx.take i)=j at*;obtain⟨M,U,d5⟩:=ip;have h4:t3≠D:=fun z=>by rw[z,U]at e2;cases e2
  refine Ax ?_;cbv;refine EJ (fun d4 d3=>d4=[some (.ref e),some (.ref a),some (.ref t),some (.int (A:Nat)),some (.ref Z),some (.ref ma),some (.ref t3)]/\f1 (i+1) d3/\d3 Z=some (.lst (nV ((nx.take i).map j.idxOf)))/\Dd d3 t3 I.1 I.2) ?_ ?_
  ·rintro d4 H4 ⟨rfl,⟨j0,je,jp,d9,g3,jg,jt,g2,d8,e0⟩,a9,g1⟩;have a1:I∈B9 O (nx.take (i+1)):=by rw[Fh,b7];exact .inr (by simp)
   have hv:Ba (IW (B9 O (nx.take (i+1)))) (EE I)=some (V.int ((B9 O (nx.take (i+1))).idxOf I:Nat)):=by rw[Qy,zc a1]
   have e7:CO H4 s (.ref t3) (some (V.int ((B9 O (nx.take (i+1))).idxOf I:Nat))):=hv▸CO.t (k:=EE I) d9 g1;exists _,rfl,.inl ⟨rfl,_,AI.of a9⟩,_,rfl,e,aE,dx,_,_,rfl,je,G.ec.cl,G.ec.nN,V1 D s fl,_,rfl,s,_,rfl,e7,Z,_,_,rfl,rfl,a9,?_;·unfold nV;rw[z3,z3,zO];have:=MG hA.Z hq;exact y2 (z_ (xH _ _) this) O9
   ·exists _,_,rfl,⟨Bu j0 d6,by rw[Ac b4];exact je,?_,by rw[Ac (zN P)];exact d9,by rw[Ac (zN y)];exact g3,fun g L u z=>by rw[Ac (e9 g u)];exact jg g L u z,?_,by rw[Ac a6];exact g2,?_,e0⟩;·obtain⟨c4,h1,h2⟩:=jp;exact⟨c4,by rw[Ac (zN w)];exact h1,FX (C7 a9 (by intro xs z;cases z)) h2⟩
    ·exact C7 a9 (by intro xs z;cases z) _ _ jt
    ·exact Am (fun a' m' z=>C7 a9 (by intro xs z;cases z) _ _ z) d8
    ·rw[Aa,b7,zu];unfold nV;rw[zu];have:(nx.take i).map (B9 O (nx.take i++[I])).idxOf=(nx.take i).map j.idxOf:=by
      refine y6 fun x g5=>?_;have g4:x∈j:=by rw[<-e3,Fh];exact .inr g5
      rw[<-b7,d];split;·rfl
      ·exact WR g4 _
     rw[this];rfl
  ·intro b8;exists _,rfl,_,rfl,e,aE,dx,_,_,rfl,f _ _ ie,G.ec.cl,G.ec.nN,V1 D s fl,s,_,rfl,CO.t (k:=EE I) (f _ _ a0) W,_,rfl;rw[Qy];have c9:=i0.trans f;have p3:Paired (fun t (q:Bd)=>Dd H3 t q.1 q.2) M j:=FX (fun b xs z=>f _ _ z) d5;have f9:M.length=j.length:=zE p3;by_cases a1:I∈j
   ·rw[zc a1]at d;refine B8 (by rw[zc a1];rfl) (b8 _ _ ⟨rfl,⟨c9,f _ _ ie,?_,?_,f _ _ a4,fun g L u z=>f _ _ (ig g L u z),f _ _ it,f _ _ c8,Am (fun Y Y=>f _ _) T,?_⟩,f _ _ b0,W⟩);·rw[d];exact⟨M,f _ _ U,p3⟩
    ·rw[d];exact f _ _ a0
    ·rw[d];exact J
   ·rw[zb a1]at d;refine BI (by rw[zb a1];rfl) ⟨_,rfl,e,aE,dx,_,_,rfl,f _ _ ie,G.ec.cl,G.ec.nP,Kf D s fl,D,_,rfl,.inl (AI.of (f _ _ U)),_,rfl,_,_,rfl,rfl,_,rfl,?_⟩;have e1:(M.map V.ref).length=j.length:=by rw[z3,f9]
    by_cases hfull:A<=j.length;·refine BI (zj (by rw[e1];lia)) ?_;rw[d,zd]at e6;rw[zc (show A<(B9 O (Bj r q)).length from zF (Nat.lt_succ_of_le hfull) e6)]at k;exact D_ (KJ G) (k.same c9)
    ·refine B8 (zo (by rw[e1];lia)) ⟨_,rfl,e,aE,dx,_,_,rfl,f _ _ ie,G.ec.cl,G.ec.nP,Kf D s fl,D,_,rfl,.inl (AI.of (f _ _ U)),_,rfl,e,aE,dx,_,_,rfl,f _ _ ie,G.ec.cl,G.ec.nN,V1 D s fl,_,rfl,s,_,rfl,Rf.t (k:=EE I) (f _ _ a0) W (by rw[fR];exact y2 J (y2 hm ⋯)),?_⟩;rw[e1,fQ a1];have f2:∀b xs,H3 b=some (.tup xs)->Av H3 s (.dT (IW (j++[I]))) b=some (.tup xs):=C7 (f _ _ a0) (by intro xs z;cases z);have b2:Av H3 s (.dT (IW (j++[I]))) D=some (.lst (M.map V.ref)):=by rw[Ac (zN R)];exact f _ _ U
     refine⟨_,rfl,e,aE,dx,_,_,rfl,by rw[Ac a2];exact f _ _ ie,G.ec.cl,G.ec.nP,Kf D s fl,.inl ⟨rfl,_,AI.of b2⟩,_,rfl,D,_,_,rfl,rfl,b2,by rw[e1];exact y2 J (y2 hm ⋯),?_⟩;have a5:∀b xs,H3 b=some (.tup xs)->Av (Av H3 s (.dT (IW (j++[I])))) D (.lst (M.map V.ref++[.ref t3])) b=some (.tup xs):=fun b xs z=>C7 b2 (by intro xs z;cases z) _ _ (f2 b xs z);have a3:∀b o,H3 b=some o->b≠s->b≠D->Av (Av H3 s (.dT (IW (j++[I])))) D (.lst (M.map V.ref++[.ref t3])) b=some o:=fun b o z n1 n2=>by rw[Ac n2,Ac n1];exact z
     refine b8 _ _ ⟨rfl,⟨fun b o z=>a3 b o (c9 _ _ z) (Ab z f7) (Ab z f6),a3 _ _ (f _ _ ie) a2 b5,?_,?_,a3 _ _ (f _ _ a4) (zN S) (zN pf),fun g L u z=>a3 _ _ (f _ _ (ig g L u z)) (f0 g u) (d2 g u).1,a5 _ _ (f _ _ it),a3 _ _ (f _ _ c8) a8 a7,Am (fun Y Y z=>a5 _ _ (f _ _ z)) T,?_⟩,a3 _ _ (f _ _ b0) P w,a5 _ _ W⟩;·rw[d];exact⟨M++[t3],by rw[Aa,zu];rfl,BU (FX a5 p3) (.cons (a5 _ _ W) .nil)⟩
     ·rw[d,Ac R,Aa]
     ·rw[d,zd];show j.length+1<=A;lia
 ·rintro σ H' ⟨v5,v6,rfl,⟨i0,ie,ip,a0,a4,ig,it,c8,T,J⟩,b0⟩;have el:nx.take (as.map V.ref).length=nx:=by rw[z3,zE T,show(r.moves (pB q)).length=nx.length from(bg).symm,y1]
  rw[el]at ip a0 b0 J;rw[zb (show¬A<(B9 O (Bj r q)).length from Nat.not_lt.mpr J)]at k;have g0:gs.length=fs.length:=zE c6;refine⟨_,rfl,e,aE,dx,_,_,rfl,ie,G.ec.cl,G.ec.nF,QH D s fl,.inl ⟨rfl,_,AI.of a4⟩,_,rfl,fl,_,_,rfl,rfl,a4,by rw[z3,g0];exact y2 h0 ⋯,?_⟩;have b6:e≠fl:=c7 b3 (by intro Y Y Y z;cases z);have tk:∀b xs,H' b=some (.tup xs)->Av H' fl (.lst (gs.map V.ref++[.ref Z])) b=some (.tup xs):=C7 a4 (by intro xs z;cases z);refine k _ ⟨⟨dx,by rw[Ac b6];exact ie⟩,?_,by rw[Ac S];exact a0,⟨gs++[Z],by rw[Aa,zu];rfl,BU ?_ (.cons (by rw[Ac y];exact b0) .nil),fun g u=>?_⟩,pf⟩ (Bu i0 f8);·obtain⟨c4,h1,h2⟩:=ip;exact⟨c4,by rw[Ac pf];exact h1,FX tk h2⟩
  ·exact Am (fun g L z=>by rw[Ac (d2 g z.1).2];exact ig g L z.1 z.2) (Ea c6)
  ·rcases zD.mp u with u|u;·exact d2 g u
   ·rw[zB.mp u];exact⟨w,y⟩
def Rm(r:Rules)(q:Bd):Nat:=if r.ended (pB q)=1 then 0 else if r.ended (pB q)=2 then 1 else 1-q.2
inductive R3(C:Addr):_|mk(a p:Addr)(r:Rules)(q:Bd):vs=[.ref a,.ref p]->Bf C H a r->Dd H p q.1 q.2->Cu r q->(∀H',Ap H H'->Q (.int (Rm r q:Nat)) H')->R3 C vs H Q E
def JF(b:List (List Nat))(i j:Nat):List Nat:=(List.range i).flatMap fun a=>List.replicate ((b.getD a []).count j) a
def Fq(a:List (List Nat))(i:Nat):List (List Nat):=(List.range a.length).map (JF a i)
def LL(H:Hp)(c:Addr)(a:List Addr)(b:List (List Nat)):Prop:=H c=some (.lst (a.map V.ref))/\a.Nodup/\c∉a/\Paired (fun d e=>H d=some (.lst (nV e))) a b
inductive Mb(K:Frag):_|mk(fl pl:Addr)(gs:List Addr)(fs:List (List Nat)):vs=[.ref fl]->gI H fl pl gs fs->fs.length<=200->(∀a,(fs.getD a []).length<=8788)->(∀a j,j∈fs.getD a []->j<fs.length)->(∀H' el ds,Ap H H'->H el=none->(∀d∈ds,H d=none)->LL H' el ds (Fq fs fs.length)->Q (.ref el) H')->Mb K vs H Q E
theorem JE(a:List (List Nat))(i j:Nat):JF a (i+1) j=JF a i j++List.replicate ((a.getD i []).count j) i:=by unfold JF;rw[yg,yd,yb]
theorem Sf(b:List (List Nat))(h:∀a,(b.getD a []).length<=8788)(j:Nat):∀i,(JF b i j).length<=8788*i|0=>ze _|i+1=>by rw[JE,zd,yF];have:=Sf b h j i;have:=r8 (a:=j) (l:=b.getD i []);have:=h i;lia
theorem M9(c:List (List Nat))(j i:Nat):∀n,(JF c n j).count i=if i<n then(c.getD i []).count j else 0
|0=>by simp[JF]
|n+1=>by
 rw[JE,wN,M9 c j i n,s_];by_cases h:i<n;·have a:¬n=i:=∅;have b:i<n+1:=∅;simp[h,a,b]
 ·by_cases a:n=i;·subst a;simp
  ·have b:¬i<n+1:=∅;simp[h,a,b]
theorem aG(d:List (List Nat))(j i n:Nat)(h:i∈JF d n j):i<n:=by unfold JF at h;obtain⟨a,c,b⟩:=yH.mp h;rw[(List.mem_replicate.mp b).2];exact zC.mp c
theorem bH{l:Addr}{i:List Nat}:∀{g:List Addr}{c:List (List Nat)},g.Nodup->Paired (fun d k=>H d=some (.lst (nV k))) g c->∀{j:Nat},g[j]?=some l->Paired (fun d k=>(Av H l (.lst (nV i))) d=some (.lst (nV k))) g (c.set j i)
|_,_,_,.nil,j,e=>by cases e
|d::g,k::c,f,.cons h t,0,e=>by cases e;rw[xV]at f;exact .cons (by rw[Aa]) (Am (fun a b z=>by rw[Ac (fun q=>f.1 (by rw[<-q];exact z.1))];exact z.2) (Ea t))
|d::g,k::c,f,.cons h t,j+1,e=>by
 rw[xV]at f;have m:g[j]?=some l:=‹e›;refine .cons ?_ (bH f.2 t m);rw[Ac];·exact h
 ·intro q;rw[q]at f;exact f.1 (zf m)
def Fw(a:List (List Nat))(i k j:Nat):List Nat:=JF a i j++List.replicate (((a.getD i []).take k).count j) i
theorem bD(a:List (List Nat))(i j:Nat):Fw a i 0 j=JF a i j:=by simp[Fw]
theorem fI(a:List (List Nat))(i j:Nat):Fw a i (a.getD i []).length j=JF a (i+1) j:=by rw[JE,Fw,y1]
theorem bE{a:List (List Nat)}{k j:Nat}(h:(a.getD i [])[k]?=some j)(x:Nat):Fw a i (k+1) x=if x=j then Fw a i k x++[i]else Fw a i k x:=by
 unfold Fw;rw[yi,h,xP,wN,sZ];by_cases q:x=j;·subst q;rw[zc rfl,xG,zc rfl,List.replicate_succ',zX]
 ·rw[zb q,zb (by simp;exact fun z=>q z.symm),uf]
theorem fG{b:List (List Nat)}(c:∀a,(b.getD a []).length<=8788)(d:b.length<=200)(e:i<b.length)(k j:Nat):(Fw b i k j).length<sizeLine:=by
 unfold Fw;rw[zd,yF];have m:=Sf b c j i;have h:=r8 (a:=j) (l:=(b.getD i []).take k);have g:((b.getD i []).take k).length<=(b.getD i []).length:=by rw[zO];exact xH _ _
 have f:=c i;have:(1800000:Nat)<sizeLine:=⋯;lia
theorem lM:Ah ["hall","position","state"] ["hall","position"] (Ad Wn):={}
theorem Vl(c:AY):FJ 4 "winner" ["hall","position"] (R3 aH):=by
 refine c.cQ.has fun F=>F.ok lM fun H Q E g h=>?_;obtain⟨a,p,r,q,rfl,j,f,e,k⟩:=h;exists%[An (i:=2) lM.nd (Ay (Gw c) g rfl Ar (#v[pv 0,pv 1])),AK (Ao AX (pv 2) Ae) (Ag (Aj (AB (v:= .int 0) rfl (C2 c.Km) ⟨_,rfl⟩))) Au,AK (Ao AX (pv 2) Ae) (Ag (Aj (AB (v:= .int 1) rfl (C2 c.Fz) ⟨_,rfl⟩))) Au|Aj (A9 Eb Ae (Az Be (pv 1) Ae))];refine⟨_,rfl,_,rfl,a,p,r,q.1,q.2,rfl,j,f,e.b,fun l d=>?_⟩;exists _,rfl,rfl,_,rfl;have b:=k l d;unfold Rm pB at b;by_cases e1:r.ended (Aq q.1 q.2)=1;·rw[zc e1]at b;exact BI (zj (by rw[e1];rfl)) b
 ·rw[zb e1]at b;refine B8 (zo (by intro z;injection z with z;exact e1 ∅)) ⟨_,rfl,rfl,_,rfl,?_⟩;by_cases e2:r.ended (Aq q.1 q.2)=2;·rw[zc e2]at b;exact BI (zj (by rw[e2];rfl)) b
  ·rw[zb e2]at b;refine B8 (zo (by intro z;injection z with z;exact e2 ∅)) ⟨_,rfl,p,_,_,_,rfl,rfl,.of (d _ _ f),rfl,_,_,rfl,rfl,?_⟩;cbv;rw[show(1:Int)-(q.2:Int)=((1-q.2:Nat):Int) by have:=e.t;lia];exact b
abbrev qD:List Str:=["follows","earlier","number","reached","later"]
theorem XA:Ah qD ["follows"] (Ad JA):={}
theorem Q9(Zf:AY):FJ 1 "reversed_follows" ["follows"] (Mb K):=by
 refine Zf.HW.has fun F=>F.ok XA fun H Q E hr h=>?_;obtain⟨fl,pl,gs,f,rfl,⟨y,Z,b2⟩,hn,h8,hj,k⟩:=h;have S:gs.length=f.length:=zE Z;exists%[FW (i:=1) (own:=[("reached",3)]) rfl XA.nd rfl rfl (Ij rfl rfl rfl rfl) (BL (pv 0)) (Dm (N0:=qD) (sc0:=Ad JA) rfl rfl ∎) (fun Y Y Y Y Y=>Aw (i:=3) XA.nd) (fun Y Y Y Y Y=>Cg) (fun Y Y Y Y Y=>AE Cd),BB y0 rfl (Lz (by rfl) Zf.BF (#v[pv 0])) (Di rfl (AR (Aw (i:=2) XA.nd) (AR (Aw (i:=3) XA.nd) Cp))) (Ag (BB y0 rfl (BL (pv 3)) (Aw (i:=4) XA.nd) (Ag (A2 (B4 zK zW zY By (Az AD (pv 1) (pv 4)) (#v[pv 2])))))) |Aj (pv 1)];refine⟨_,rfl,fl,rfl,⟨_,AI.of y⟩,fun t J=>?_⟩;refine C_ (xs:=gs.map V.ref) (fun i H'=>∃m:List Addr,Ap H H'/\H' t=some (.lst (m.map V.ref))/\m.Nodup/\m.length=i/\∀d∈m,H d=none/\d≠t/\H' d=some (.lst [])) ⟨[],Af J,Aa,wa,rfl,fun d p=>nomatch p⟩ (fun i H' Y ⟨_,z,_⟩=>AI.of (z _ _ y)) ?_ ?_
 ·rintro i v H' hi ⟨m,O,n,nd,W,s⟩;have a5:i<gs.length:=by have:=(z8.mp hi).1;rwa[z3]at this
  refine⟨rfl,?_⟩;unfold HF;cbv;rw[zc rfl];refine⟨zx _,fun d p=>?_⟩;have w:t≠d:=Ab n p;exists _,by rw[Ac w];exact n,by rw[z3,W];exact zF (show i<200 by lia) ⋯,m++[d],fun b o e=>?_,?_,?_,?_;·rw[Ac (Ab e J),Ac (Ab (O _ _ e) p)];exact O _ _ e
  ·rw[Aa,zu];rfl
  ·refine yZ.mpr ⟨nd,by simp,fun a ha b hb z=>?_⟩;rw[zB.mp hb]at z;rw[z]at ha;have:=(s d ha).2.2;rw[p]at this;cases this
  ·rw[zd,W];rfl
  ·intro x I;rcases zD.mp I with I|I;·obtain⟨h1,U,h3⟩:=s x I;exists h1,U;rw[Ac U,Ac (Ab h3 p)];exact h3
   ·rw[zB.mp I];exact⟨O.free p,zN w,by rw[Ac (zN w),Aa]⟩
 ·rintro H1 ⟨m,X,a7,a0,W,s⟩;rw[z3]at W;have P:t∉m:=fun z=>(s t z).2.1 rfl;have p0:Paired (fun d L=>H1 d=some (.lst (nV L))) m (Fq f 0):=by
   have b0:∀(m:List Addr)(l:List (List Nat)),m.length=l.length->(∀d∈m,H1 d=some (.lst []))->(∀x∈l,x=[])->Paired (fun d L=>H1 d=some (.lst (nV L))) m l:=by
    intro m;induction m with
    |nil=>intro l h Y Y;cases l with|nil=>exact .nil|cons=>cases h
    |cons d m ih=>intro l h h1 U;cases l with|nil=>cases h|cons x l=>refine .cons ?_ (ih l ‹h› (fun d p=>h1 d (zg _ p)) fun x I=>U x (zg _ I));rw[U x zh];exact h1 d zh
   refine b0 m _ (by rw[W,S];simp[Fq]) (fun d p=>(s d p).2.2) fun x I=>?_;obtain⟨j,Y,rfl⟩:=zk.mp I;rfl
  have B:∀d∈m,H d=none:=fun d p=>(s d p).1;have a1:fl≠t:=Ab y J;refine⟨_,rfl,fl,_,rfl,AI.of (X _ _ y),J_ (xs:=gs.map V.ref) (fun i C H'=>∃v2 v3 N,C=[some (.ref fl),some (.ref t),v2,v3,N]/\Ap H H'/\H' t=some (.lst (m.map V.ref))/\Paired (fun d L=>H' d=some (.lst (nV L))) m (Fq f i)) ⟨none,none,none,rfl,X,a7,p0⟩ (fun i C H' Y ⟨_,_,_,_,z,_⟩=>AI.of (z _ _ y)) ?_ ?_⟩
  ·rintro i v C H' T hi ⟨v2,v3,N,rfl,O,n,pd⟩ hT;obtain⟨g,hg,rfl⟩:∃g,gs[i]?=some g/\v= .ref g:=by rw[z7,zy]at hi;obtain⟨c,e,rfl⟩:=hi;exact⟨c,e,rfl⟩
   obtain⟨u,R,a8⟩:=AA Z hg;have a5:i<f.length:=(z8.mp R).1;have A:f.getD i []=u:=by rw[z5,R];rfl
   have D:Ap H' (Av H' T (.tup [.int (i:Nat),.ref g])):=Af hT;refine⟨T,_,rfl,.of Aa,rfl,_,_,rfl,_,_,rfl,rfl,_,rfl,g,rfl,⟨_,AI.of (D _ _ (O _ _ a8))⟩,Gy (xs:=nV u) (fun k C M=>∃N,C=[some (.ref fl),some (.ref t),some (.int (i:Nat)),some (.ref g),N]/\Ap H M/\M t=some (.lst (m.map V.ref))/\Paired (fun d L=>M d=some (.lst (nV L))) m ((List.range f.length).map (Fw f i k))) ⟨N,rfl,O.trans D,D _ _ n,?_⟩ (fun k C M Y ⟨_,_,z,_⟩=>AI.of (z _ _ a8)) ?_ ?_⟩;·have:(List.range f.length).map (Fw f i 0)=Fq f i:=y6 fun j Y=>bD f i j;rw[this];exact Am (fun Y Y=>D _ _) pd
   ·rintro k v C H2 hk ⟨N,rfl,s2,r,G⟩;obtain⟨j,a4,rfl⟩:∃j,u[k]?=some j/\v= .int (j:Nat):=by unfold nV at hk;rw[z7,zy]at hk;obtain⟨c,e,rfl⟩:=hk;exact⟨c,e,rfl⟩
    have a3:j<f.length:=hj i j (by rw[A];exact zf a4);have a2:m.length=f.length:=by rw[W,S]
    obtain⟨d,p⟩:∃d,m[j]?=some d:=⟨_,z4 (by rw[a2];exact a3)⟩;obtain⟨L,a6,a9⟩:=AA G p;have b1:L=Fw f i k j:=by rw[z7,xh a3]at a6;exact(zt a6).symm
    subst b1;have w:t≠d:=fun z=>P (by rw[z];exact zf p);exists _,rfl,_,rfl,t,_,_,V.ref d,rfl,rfl,AI.of r,AM (by rw[z7,p];rfl),.inl ⟨rfl,_,AI.of a9⟩,_,rfl,d,_,_,rfl,rfl,a9,?_;·unfold nV;rw[z3];exact fG h8 hn a5 k j
    ·refine⟨_,rfl,fun b o e=>?_,by rw[Ac w];exact r,?_⟩;·rw[Ac (Ab e (B d (zf p)))];exact s2 _ _ e
     ·have e1:nV (Fw f i k j)++[V.int (i:Nat)]=nV (Fw f i k j++[i]):=by unfold nV;rw[zu];rfl
      rw[e1];have e2:(List.range f.length).map (Fw f i (k+1))=((List.range f.length).map (Fw f i k)).set j (Fw f i k j++[i]):=by
       apply xJ;·simp
       ·intro x h1 U;rw[xp,vg,bE (by rw[A];exact a4),tf];by_cases q:x=j;·subst q;simp
        ·rw[zb q,zb (fun z=>q z.symm),xp,vg]
      rw[e2];exact bH a0 G p
   ·rintro C H2 ⟨N,rfl,s2,r,G⟩;exists _,_,_,rfl,s2,r;have:(List.range f.length).map (Fw f i (nV u).length)=Fq f (i+1):=y6 fun j Y=>by rw[show(nV u).length=(f.getD i []).length by rw[A];simp[nV]];exact fI f i j
    rw[<-this];exact G
  ·rintro C H' ⟨v2,v3,N,rfl,O,n,pd⟩;rw[z3,S]at pd;exact⟨_,rfl,k H' t m O J B ⟨n,a0,P,pd⟩⟩
structure EA(r:Rules)(ps:List Bd)(fs:List (List Nat)):Prop where
 Z:B0 r
 N:Of r
 good:∀q∈ps,Cu r q
 nd:ps.Nodup
 len:fs.length=ps.length
 small:ps.length<=200
 Ze:∀i q,ps[i]?=some q->fs.getD i []=(Bj r q).map ps.idxOf
 jR:∀q∈ps,∀p∈Bj r q,p∈ps
theorem LA{r:Rules}{p:Bd}(b:Cu r p):∀(a:List Bd),(∀q∈a,Cu r q)->(a.map pB).findIdx? (fun x=>x==pB p)=if p∈a then some (a.idxOf p)else none
|[],_=>by simp
|q::a,h=>by
 have f:=h q zh;have c:=LA b a fun x d=>h x (zg _ d);rw[zH,wF,c];by_cases e:q=p;·subst e;simp
 ·have:(pB q==pB p)=false:=zL.mpr fun z=>e ((aU f b).mp z);rw[this,um,zL.mpr e];by_cases h2:p∈a;·simp[h2]
  ·have:¬p=q:=fun z=>e z.symm;simp[h2,this]
theorem EA.edges{r:Rules}{a:List Bd}{c:List (List Nat)}(G:EA r a c):r.edges (a.map pB)=c:=by
 unfold Rules.edges;apply xJ;·simp[G.len]
 ·intro i o n;rw[xp,xp];have g:i<a.length:=‹o›;have m:=z4 g;have f:a[i]∈a:=wo g;rw[Ny G.Z G.N (G.good _ f)];have e:=G.Ze i _ m;rw[z5,z4 n]at e;have t:c[i]=(Bj r a[i]).map a.idxOf:=e;rw[t,List.filterMap_map];have b:∀l:List Bd,(∀p∈l,p∈a)->l.filterMap ((fun q=>(a.map pB).findIdx? fun x=>x==q)∘pB)=l.map a.idxOf:=by
   intro l;induction l with
   |nil=>intro Y;rfl
   |cons p l j=>
    intro h;have d:=h p zh;rw[yu];have s:((fun q=>(a.map pB).findIdx? fun x=>x==q)∘pB) p=some (a.idxOf p):=by show(a.map pB).findIdx? (fun x=>x==pB p)=_;rw[LA (G.good p d) a G.good,zc d]
    rw[s];cbv;rw[j fun x k=>h x (zg _ k)];rfl
  exact b _ (G.jR _ f)
def Cc(a:List Bd):List Nat:=a.map (·.2)
def BA(r:Rules)(a:List Bd):List Tafl.Value:=a.map fun q=>r.endValue (pB q)
theorem T2(r:Rules)(p:Tafl.Pos):r.ended p<=2:=by
 unfold Rules.ended;split;·decide
 ·split<;>decide
theorem Ke{r:Rules}{q:Bd}:(Bj r q=[]↔r.endValue (pB q)≠none):=by
 have b:Bj r q=[]↔r.moves (pB q)=[]:=by unfold Bj;rw[ya]
 rw[b];unfold Rules.endValue Rules.over;have a:r.ended (pB q)≠0->r.moves (pB q)=[]:=fun h=>by unfold Rules.moves;rw[zc h]
 have:=T2 r (pB q);by_cases he:r.ended (pB q)=0
 ·by_cases hmm:r.moves (pB q)=[];·simp[he,hmm]
  ·simp[he,hmm]
 ·have:r.ended (pB q)=1\/r.ended (pB q)=2:=∅;rcases this with h|h<;>simp[h,a he]
theorem Xb{r:Rules}{q:Bd}(h:Bj r q=[]):r.endValue (pB q)=some (Rm r q,0):=by
 have a:r.moves (pB q)=[]:=by unfold Bj at h;rwa[ya]at h
 unfold Rules.endValue Rules.over Rm;have:=T2 r (pB q);by_cases he:r.ended (pB q)=0;·simp[he,a];rfl
 ·have:r.ended (pB q)=1\/r.ended (pB q)=2:=∅;rcases this with h|h<;>simp[h]
theorem iF{r:Rules}{q:Bd}:Rm r q<=1:=by
 unfold Rm;split;·decide
 ·split;·decide
  ·lia
theorem getD_map'{a b:Type}(f:a->b)(l:List a)(i:Nat)(d:b)(x:a)(h:l[i]?=some x):(l.map f).getD i d=f x:=by rw[z5,z7,h];rfl
theorem getD_none{a:Type}(l:List a)(i:Nat)(d:a)(h:l[i]?=none):l.getD i d=d:=by rw[z5,h];rfl
theorem EA.Tq{r:Rules}{a:List Bd}{b:List (List Nat)}(G:EA r a b)(h:a[i]?=none):b.getD i []=[]:=by apply getD_none;rw[y9]at h|-;rw[G.len];exact h
theorem EA.gr{r:Rules}{a:List Bd}{b:List (List Nat)}(G:EA r a b):HM.Gr a.length (Cc a) b (Fq b b.length) (BA r a):=by
 have g:∀i j,j∈b.getD i []->j<a.length:=fun i j h=>by cases e:a[i]? with|none=>rw[G.Tq e]at h;cases h|some q=>rw[G.Ze i q e]at h;obtain⟨p,k,rfl⟩:=zk.mp h;exact List.idxOf_lt_length_of_mem (G.jR q (zf e) p k)
 have c:∀j,j<a.length->(Fq b b.length).getD j []=JF b b.length j:=fun j d=>by unfold Fq;exact getD_map' _ _ _ _ _ (xh (by rw[G.len];exact d))
 refine⟨G.len,by simp[Fq,G.len],by simp[BA],g,fun i j h=>?_,fun i j f d=>?_,fun i=>?_,fun i x h=>?_,fun i f=>?_⟩
 ·by_cases d:j<a.length;·rw[c j d]at h;have:=aG b j i _ h;rw[<-G.len];exact this
  ·rw[getD_none _ _ _ (y9.mpr (by simp[Fq,G.len];lia))]at h;cases h
 ·rw[c j d,M9,zc (by rw[G.len];exact f)]
 ·cases e:a[i]? with|none=>rw[getD_none _ _ _ (by unfold Cc;rw[z7,e];rfl)];decide|some q=>unfold Cc;rw[getD_map' _ _ _ _ _ e];exact(G.good q (zf e)).t
 ·cases e:a[i]? with|none=>rw[getD_none _ _ _ (by unfold BA;rw[z7,e];rfl)]at h;cases h|some q=>unfold BA at h;rw[getD_map' _ _ _ _ _ e]at h;have l:Bj r q=[]:=Ke.mpr (by rw[h];exact fun z=>nomatch z);rw[Xb l]at h;cases h;exact⟨rfl,iF⟩
 ·obtain⟨q,e⟩:∃q,a[i]?=some q:=⟨_,z4 f⟩;unfold BA;rw[G.Ze i q e,getD_map' _ _ _ _ _ e,ya];exact Ke
theorem EA.values{r:Rules}{a:List Bd}{b:List (List Nat)}(G:EA r a b){f:List Tafl.Value}(F:Xn (Cc a) b (BA r a) f):r.values (a.map pB)=f:=by
 have h:=HM.UH F;have e:(a.map pB).map (fun p=>p.side)=Cc a:=by rw[zG];rfl
 have d:(a.map pB).map r.endValue=BA r a:=by rw[zG];rfl
 have c:(BA r a).length=(a.map pB).length:=by simp[BA]
 unfold Rules.values;rw[e,d,G.edges,<-c];exact h
def Cv:Tafl.Value->Int×Int|some x=>((x.1:Nat),(x.2:Nat)) |none=>(2,0)
def kN(H:Hp)(b:Addr)(c:List Tafl.Value):Prop:=∃a:List Addr,H b=some (.lst (a.map V.ref))/\Paired (fun t v=>Ci H t (Cv v)) a c
theorem MD{d c:Type}{R:d->c->Prop}{a:d}{b:c}(h:R a b):∀{f:List d}{e:List c},Paired R f e->∀(j:Nat),Paired R (f.set j a) (e.set j b) |_,_,.nil,_=> .nil|_,_,.cons _ t,0=> .cons h t|_,_,.cons r t,j+1=> .cons r (MD h t j)
inductive R4(C:Addr):_|mk(a pl fl:Addr)(r:Rules)(ps:List Bd)(gs:List Addr)(fs:List (List Nat)):vs=[.ref a,.ref pl,.ref fl]->Bf C H a r->gD H pl ps->gI H fl pl gs fs->EA r ps fs->(∀H' wl,Ap H H'->H wl=none->kN H' wl (r.values (ps.map pB))->Xn (Cc ps) fs (BA r ps) (r.values (ps.map pB))->Q (.ref wl) H')->R4 C vs H Q E
structure Sep(H:Hp)(vl ul ql el:Addr)(ds:List Addr):Prop where
 hv:H vl=none
 hu:H ul=none
 hq:H ql=none
 vu:vl≠ul
 vq:vl≠ql
 uq:ul≠ql
 ev:el≠vl
 eu:el≠ul
 eq:el≠ql
 d:∀d∈ds,d≠vl/\d≠ul/\d≠ql
structure VS(H H':Hp)(vl ul ql el:Addr)(ds:List Addr)(prs:List (List Nat))(b:B):Prop where
 sm:Ap H H'
 v:∃tv:List Addr,H' vl=some (.lst (tv.map V.ref))/\Paired (fun t v=>Ci H' t (Cv v)) tv b.vals
 u:H' ul=some (.lst (b.EB.map V.int))
 q:H' ql=some (.lst (nV b.queue))
 e:H' el=some (.lst (ds.map V.ref))
 d:Paired (fun d es=>H' d=some (.lst (nV es))) ds prs
theorem VS.same{c:Hp}{f g i j:Addr}{k:List Addr}{a:List (List Nat)}{b:B}(h:VS H H' f g i j k a b)(s:Ap H' c):VS H c f g i j k a b:=by obtain⟨m,⟨l,o,n⟩,u,q,e,d⟩:=h;exact⟨m.trans s,⟨l,s _ _ o,Am (fun Y Y=>s _ _) n⟩,s _ _ u,s _ _ q,s _ _ e,Am (fun Y Y=>s _ _) d⟩
theorem VS.lK{a f i k:Addr}{l:List Addr}{c:List (List Nat)}{b:B}(S:Sep H a f i k l)(h:VS H H' a f i k l c b){t:Addr}{v:Tafl.Value}(j:Nat)(n:H' a=some (.lst xs))(w:Ci H' t (Cv v)):VS H (Av H' a (.lst (xs.set j (.ref t)))) a f i k l c ⟨b.vals.set j v,b.EB,b.queue⟩:=by obtain⟨s,⟨g,o,x⟩,u,q,e,d⟩:=h;rw[o]at n;cases n;have m:=C7 (o':= .lst ((g.map V.ref).set j (.ref t))) o (by intro xs z;cases z);exact⟨Bu s S.hv,⟨g.set j t,by rw[Aa,wK],MD (R:=fun r p=>Ci (Av H' a (.lst ((g.map V.ref).set j (.ref t)))) r (Cv p)) (m _ _ w) (Am (fun Y Y=>m _ _) x) j⟩,by rw[Ac (zN S.vu)];exact u,by rw[Ac (zN S.vq)];exact q,by rw[Ac S.ev];exact e,Am (fun y A z=>by rw[Ac (S.d y z.1).1];exact z.2) (Ea d)⟩
theorem VS.oo{f c g i:Addr}{k:List Addr}{a:List (List Nat)}{b:B}(S:Sep H f c g i k)(h:VS H H' f c g i k a b)(j:Nat)(z:Int):VS H (Av H' c (.lst ((b.EB.map V.int).set j (.int z)))) f c g i k a ⟨b.vals,b.EB.set j z,b.queue⟩:=by obtain⟨n,⟨l,p,o⟩,u,q,e,d⟩:=h;have m:=C7 (o':= .lst ((b.EB.map V.int).set j (.int z))) u (by intro xs z;cases z);exact⟨Bu n S.hu,⟨l,by rw[Ac S.vu];exact p,Am (fun Y Y=>m _ _) o⟩,by rw[Aa,wK],by rw[Ac (zN S.uq)];exact q,by rw[Ac S.eu];exact e,Am (fun r s z=>by rw[Ac (S.d r z.1).2.1];exact z.2) (Ea d)⟩
theorem VS.app{f g c j:Addr}{k:List Addr}{a:List (List Nat)}{b:B}(S:Sep H f g c j k)(h:VS H H' f g c j k a b)(i:Nat):VS H (Av H' c (.lst (nV b.queue++[.int (i:Nat)]))) f g c j k a ⟨b.vals,b.EB,b.queue++[i]⟩:=by obtain⟨n,⟨l,p,o⟩,u,q,e,d⟩:=h;have m:=C7 (o':= .lst (nV b.queue++[.int (i:Nat)])) q (by intro xs z;cases z);exact⟨Bu n S.hq,⟨l,by rw[Ac S.vq];exact p,Am (fun Y Y=>m _ _) o⟩,by rw[Ac S.uq];exact u,by rw[Aa];unfold nV;rw[zu];rfl,by rw[Ac S.eq];exact e,Am (fun r s z=>by rw[Ac (S.d r z.1).2.2];exact z.2) (Ea d)⟩
def YZ(r:Rules)(a:List Bd)(b:List Nat):List Tafl.Value:=(List.range a.length).map fun i=>if i∈b then(BA r a).getD i none else none
theorem iI(r:Rules)(a:List Bd):YZ r a []=List.replicate a.length none:=by unfold YZ;rw[sL];refine⟨by simp,fun b c=>?_⟩;obtain⟨i,Y,rfl⟩:=zk.mp c;simp
theorem Up{r:Rules}{a:List Bd}{b:List Nat}{x:Nat}(h:x<(YZ r a b).length):(YZ r a b)[x]=if x∈b then(BA r a).getD x none else none:=by simp[YZ]
theorem PN(r:Rules)(a:List Bd)(b:List Nat):(YZ r a b).length=a.length:=by simp[YZ]
theorem dO{r:Rules}{a:List Bd}{b:List Nat}(c:i<a.length):YZ r a (b++[i])=(YZ r a b).set i ((BA r a).getD i none):=by
 apply xJ;·simp[PN]
 ·intro x e d;rw[tf,Up];by_cases q:i=x;·subst q;simp
  ·rw[zb q,Up];have:x∈b++[i]↔x∈b:=by simp;intro z;exact absurd z.symm q
   simp only[this]
theorem iJ{r:Rules}{a:List Bd}{b:List (List Nat)}(G:EA r a b):YZ r a ((List.range a.length).filter fun i=>(b.getD i []).isEmpty)=BA r a:=by
 apply xJ;·simp[PN,BA]
 ·intro x g f;have d:x<a.length:=by rwa[PN]at g
  rw[Up];have e:(BA r a).getD x none=(BA r a)[x]:=by rw[z5,z4 f];rfl
  by_cases q:x∈(List.range a.length).filter fun i=>(b.getD i []).isEmpty;·rw[zc q,e]
  ·rw[zb q];have c:¬b.getD x []=[]:=fun z=>q (by rw[zS,zC];exact⟨d,by rw[z];rfl⟩);have:=mt (G.gr.qz x d).mpr c;rw[rR]at this;rw[<-e,this]
theorem X_{l:List Nat}(h:l.Nodup)(b:∀x∈l,x<n):l.length<=n:=by
 have e:((List.range n).filter fun x=>decide (x∈l)).length<=n:=by have:=xy (fun x=>decide (x∈l)) (List.range n);rwa[yj]at this
 have a:l.Perm ((List.range n).filter fun x=>decide (x∈l)):=(w9 h (wW.filter _)).mpr fun x=>by rw[zS,zC,zJ];exact⟨fun q=>⟨b x q,q⟩,fun q=>q.2⟩
 rw[a.length_eq];exact e
theorem Lq{d c:TE}{b:L2.St}{Q:VK}(x y:Bool)(f:∀a:VK,a (.bl x) H->d b H a)(e:x=false->∀a:VK,a (.bl y) H->c b H a)(q:Q (.bl (x||y)) H):lC d c b H Q:=by refine f _ ⟨x,rfl,?_⟩;cases x with|true=>exact BI rfl q|false=>exact B8 rfl (e rfl _ q)
theorem UM{c:TE}{g:TG}{D:Ends}{b:L2.St}(h:c b H fun v d=>g v b d fun a H'=>D.nx a H'):Ry c g D b H:=h
theorem Ur{Q:VK}{x y:Bool}(q:Q (.bl x) H)(e:y=x):Q (.bl y) H:=e▸q
theorem Ey{x y:Int}:decide (V.int x=V.int y)=decide (x=y):=by rw[y3];exact⟨fun z=>by injection z,fun z=>by rw[z]⟩
abbrev pL:List Str:=["hall","positions","follows","values","unsettled","earlier","queue","number","done","value","settles","reached"]
theorem Iu:Ah pL ["hall","positions","follows"] (Ad Lw):={}
theorem Vm(Zf:AY):FJ 5 "values_of" ["hall","positions","follows"] (R4 aH):=by
 refine Zf.T9.has fun F=>F.ok Iu fun H Q E hr h=>?_;obtain⟨a,pl,fl,r,f,gs,l,rfl,hA,⟨ts,e2,d6⟩,⟨b0,d7,k4⟩,G,k⟩:=h;exists%[An (i:=3) Iu.nd (A9 Qo (AE (#v[B2 (#v[AB (v:= .int 2) rfl (C2 Zf.Fe) ⟨_,rfl⟩,Ae])])) (AN AU Zf.D6 y8 (#v[pv 1]))),FW (i:=4) (te:=og (fun xs H Q=>∃p ys,xs=[V.ref p]/\(AI K H p ys\/Em K H p ys)/\Q (V.int ys.length) H) (Bc (Bi 11) B_)) (own:=[("reached",11)]) rfl Iu.nd rfl rfl (Ij rfl rfl rfl rfl) (BL (pv 2)) (Dm (N0:=pL) (sc0:=Ad Lw) rfl rfl ∎) (fun Y Y Y Y Y=>Aw (i:=11) Iu.nd) (fun Y Y Y Y Y=>Cg) (fun Y Y Y Y Y=>AN AU Zf.D6 y8 (#v[pv 11])),An (i:=5) Iu.nd (Ay (Q9 Zf) (hr.mono ⋯) rfl Ar (#v[pv 2])),FW (i:=6) (g:=cw K 2 (KL (E6 7) (KL (E6 11) gd))) (tt:=lD (fun σ H Q=>(Bi 11) σ H fun x H'=>∃k,kO K x H' k/\Q k H')) (own:=[("number",7),("reached",11)]) rfl Iu.nd rfl rfl (Ij rfl rfl rfl rfl) (Lz (by rfl) Zf.BF (#v[pv 2])) (Dm (N0:=pL) (sc0:=Ad Lw) rfl rfl ∎) (fun Y Y Y Y Y=>Di rfl (AR (Aw (i:=7) Iu.nd) (AR (Aw (i:=11) Iu.nd) Cp))) (fun Y Y Y Y Y=>W8 (FV (IF (pv 11) (fun Y=>rfl)))) (fun Y Y Y Y Y=>pv 7),BB y0 rfl (BL (pv 6)) (Aw (i:=7) Iu.nd) (Ag (HL (B2 (#v[Ay (Vl Zf) hr rfl Ar (#v[pv 0,Az AD (pv 1) (pv 7)]),Ae])) (HN (pv 3) (pv 7) set_list))),An (i:=8) Iu.nd Ae,CU y0 (Ao FA (pv 8) (AN AU Zf.D6 y8 (#v[pv 6]))) (%[An (i:=9) Iu.nd (Az AD (pv 3) (Az AD (pv 6) (pv 8))),BB y0 rfl (BL (Az AD (pv 5) (Az AD (pv 6) (pv 8)))) (Aw (i:=7) Iu.nd) (%[fb (pv 4) (pv 7) cu Ae jQ set_list,An (i:=10) Iu.nd (OS (Bn AX (Az Be (Az AD (pv 1) (pv 7)) Ae) (Az Be (pv 9) Ae)) (ED (Bn AX (Az AD (pv 4) (pv 7)) Ae))) |AK (Ck (Ao AX (Az Be (Az AD (pv 3) (pv 7)) Ae) (AB (v:= .int 2) (by rfl) (C2 Zf.Fe) ⟨_,rfl⟩)) (BK (BS (pv 10)))).pt (%[HL (B2 (#v[Az Be (pv 9) Ae,A9 Ce (Az Be (pv 9) Ae) Ae])) (HN (pv 3) (pv 7) set_list) |A2 (B4 zK zW zY By (pv 6) (#v[pv 7]))]) Au]) |Qk (i:=8) Iu.nd Ae Vj]) |Aj (pv 3)];have a7:ts.length=f.length:=zE d6;have g1:gs.length=l.length:=zE d7;have i6:gs.length=f.length:=by rw[g1,G.len]
 have g0:=G.small;have k6:(200:Nat)<sizeLine:=⋯;have f8:∀a,(l.getD a []).length<=8788:=fun a=>by cases e:f[a]? with|none=>rw[G.Tq e];exact zx _|some q=>rw[G.Ze a q e,z3];exact MG G.Z (G.good q (zf e))
 have fj:∀a j,j∈l.getD a []->j<l.length:=fun a j h=>by rw[G.len];exact G.gr.kZ a j h
 have h3:∀{i:Nat}{v:V},(gs.map V.ref)[i]?=some v->∃g,v= .ref g/\H g=some (.lst (nV (l.getD i [])))/\i<f.length:=fun{i v} Z=>by rw[z7,zy]at Z;obtain⟨g,hg,rfl⟩:=Z;obtain⟨i4,U,k0⟩:=AA d7 hg;refine⟨g,rfl,?_,by rw[<-G.len];exact(z8.mp U).1⟩;rw[z5,U];exact k0
 refine⟨K0,fun A j4=>⟨Js,fun l0 h0=>?_⟩⟩;have s0:Ap H (Av H A (.tup [.int 2,.int 0])):=Af j4;have s1:Ap H (Av (Av H A (.tup [.int 2,.int 0])) l0 (.lst [.ref A])):=s0.trans (Af h0);have k3:(Av (Av H A (.tup [.int 2,.int 0])) l0 (.lst [.ref A])) A=some (.tup [.int 2,.int 0]):=by have:(Av H A (.tup [.int 2,.int 0])) A=some (.tup [.int 2,.int 0]):=Aa;rw[Ac (Ab this h0)];exact this
 refine⟨_,rfl,pl,_,rfl,.inl (AI.of (s1 _ _ e2)),l0,_,_,rfl,rfl,Aa,?_,?_,?_,fun w e0=>?_⟩;·have:(0:Int)<=((ts.map V.ref).length:Nat):=∅;lia
 ·rw[z3,a7];lia
 ·rw[z3,a7];show 1*(f.length:Int).toNat<=sizeLine;lia
 ·have eV:(List.replicate ((((ts.map V.ref).length:Nat):Int)).toNat [V.ref A]).flatten=(List.replicate f.length A).map V.ref:=by rw[z3,a7,wM,vf];rfl
  rw[eV];have s2:Ap H (Av (Av (Av H A (.tup [.int 2,.int 0])) l0 (.lst [.ref A])) w (.lst ((List.replicate f.length A).map V.ref))):=s1.trans (Af e0);have f9:H w=none:=s1.free e0;have b2:(Av (Av (Av H A (.tup [.int 2,.int 0])) l0 (.lst [.ref A])) w (.lst ((List.replicate f.length A).map V.ref))) w=some (.lst ((List.replicate f.length A).map V.ref)):=Aa;have h5:=Af (o:= .lst ((List.replicate f.length A).map V.ref)) e0 _ _ k3;generalize k9:(Av (Av (Av H A (.tup [.int 2,.int 0])) l0 (.lst [.ref A])) w (.lst ((List.replicate f.length A).map V.ref)))=H2 at s2 b2 h5|-;refine⟨_,rfl,fl,rfl,⟨_,AI.of (s2 _ _ b0)⟩,fun J b8=>C_ (xs:=gs.map V.ref) (Xl H2 J fun i=>(l.take i).map fun es=>V.int (es.length:Nat)) (IV b8 rfl) (fun i H' Y q=>AI.of (q.1 _ _ (s2 _ _ b0))) ?_ ?_⟩
  ·rintro i v H' Z q;obtain⟨g,rfl,hg,s⟩:=h3 Z;refine⟨rfl,?_⟩;unfold HF;cbv;rw[zc rfl];refine⟨_,rfl,g,_,rfl,.inl (AI.of (q.1 _ _ (s2 _ _ hg))),Gn b8 q ?_ (AQ _) ?_⟩;·rw[z3,zO];lia
   ·have e:l[i]?=some (l.getD i []):=Qr (by rw[G.len];exact s);rw[yi,e,zu];unfold nV;rw[z3];rfl
  ·rintro H3 ⟨a6,R⟩;have s3:Ap H H3:=s2.trans a6;have i5:H J=none:=s2.free b8;have vu:w≠J:=Ab b2 b8;have eU:(l.take (gs.map V.ref).length).map (fun es=>V.int (es.length:Nat))=(l.map fun es=>(es.length:Int)).map V.int:=by rw[z3,g1,y1,zG];rfl
   dsimp only at R;rw[eU]at R;refine⟨_,rfl,fl,pl,gs,l,rfl,⟨s3 _ _ b0,Am (fun Y Y=>s3 _ _) d7,k4⟩,by rw[G.len];exact g0,f8,fj,fun H4 el ds f3 c1 j8 j9=>?_⟩;obtain⟨d2,k7,k5,f7⟩:=j9;have s4:Ap H H4:=s3.trans f3;refine⟨_,rfl,fl,_,rfl,AI.of (s4 _ _ b0),fun P X=>bO (xs:=gs.map V.ref) (Xl H4 P fun i=>nV ((List.range i).filter fun a=>(l.getD a []).isEmpty)) (IV X rfl) (fun i H' Y q=>AI.of (q.1 _ _ (s4 _ _ b0))) ?_ ?_⟩
   ·rintro i v H' T Z q hT;obtain⟨g,rfl,hg,s⟩:=h3 Z;have sT:Ap H' (Av H' T (.tup [.int (i:Nat),.ref g])):=Af hT;exists T,_,rfl,.of Aa,rfl,_,_,rfl,_,_,rfl,rfl,rfl,_,rfl,_,.inl ⟨_,AI.of (sT _ _ (q.1 _ _ (s4 _ _ hg))),rfl⟩;have eF:(List.range (i+1)).filter (fun a=>(l.getD a []).isEmpty)=(List.range i).filter (fun a=>(l.getD a []).isEmpty)++if(l.getD i []).isEmpty=true then[i]else[]:=by rw[yg,rE,wX,qm]
    have g9:(nV ((List.range i).filter fun a=>(l.getD a []).isEmpty)).length<sizeLine:=by unfold nV;rw[z3];have:=xy (fun a=>(l.getD a []).isEmpty) (List.range i);rw[yj]at this;lia
    cases U:l.getD i []with|nil=>rw[U]at eF;refine BI rfl ⟨_,rfl,Gn X q g9 sT ?_⟩;rw[eF];unfold nV;rw[zu];rfl|cons x i4=>rw[U]at eF;refine B8 rfl (h_ q sT ?_);rw[eF];show nV (_++[])=_;rw[zR]
   ·rintro H5 ⟨a4,W⟩;have s5:Ap H H5:=s4.trans a4;dsimp only at W;rw[z3,i6]at W;have e6:∀{b o},H3 b=some o->H4 b=some o:=fun z=>f3 _ _ z;have g3:=e6 (a6 _ _ b2);have g5:=e6 R;have h6:∀d∈ds,d≠w/\d≠J/\d≠P:=fun d hd=>by have c2:=j8 d hd;refine⟨(fun z=>by rw[z,a6 _ _ b2]at c2;cases c2),(fun z=>by rw[z,R]at c2;cases c2),fun z=>?_⟩;obtain⟨j,hj⟩:=yJ hd;obtain⟨es,Y,he⟩:=AA f7 hj;rw[z,X]at he;cases he
    have S:Sep H w J P el ds:=⟨f9,i5,s4.free X,vu,Ab g3 X,Ab g5 X,(fun z=>by rw[z,a6 _ _ b2]at c1;cases c1),(fun z=>by rw[z,R]at c1;cases c1),Ab d2 X,h6⟩;generalize c3:((List.range f.length).filter fun a=>(l.getD a []).isEmpty)=Q0 at W;have f6:∀i∈Q0,i<f.length/\l.getD i []=[]:=fun i Z=>by rw[<-c3,zS,zC,u9]at Z;exact Z
    have i0:VS H H5 w J P el ds (Fq l l.length) ⟨YZ r f (Q0.take 0),l.map fun es=>(es.length:Int),Q0⟩:=by
     refine⟨s5,⟨List.replicate f.length A,a4 _ _ g3,?_⟩,a4 _ _ g5,W,a4 _ _ d2,Am (fun Y Y=>a4 _ _) f7⟩;rw[wI,iI];have k1:∀n,Paired (fun t v=>Ci H5 t (Cv v)) (List.replicate n A) (List.replicate n (none:Tafl.Value)):=by intro n;induction n with|zero=>exact .nil|succ n ih=>exact .cons (a4 _ _ (e6 (a6 _ _ h5))) ih
     exact k1 _
    refine⟨_,rfl,P,rfl,⟨_,AI.of W⟩,Gy (xs:=nV Q0) (fun k σ H'=>∃O,σ=[some (.ref a),some (.ref pl),some (.ref fl),some (.ref w),some (.ref J),some (.ref el),some (.ref P),O,none,none,none,none]/\VS H H' w J P el ds (Fq l l.length) ⟨YZ r f (Q0.take k),l.map fun es=>(es.length:Int),Q0⟩) ⟨none,rfl,i0⟩ (fun k σ H' Y ⟨_,_,z⟩=>AI.of z.q) ?_ ?_⟩
    ·rintro k v σ H' hk ⟨O,rfl,N⟩;obtain⟨i,Z,rfl⟩:∃i,Q0[k]?=some i/\v= .int (i:Nat):=by unfold nV at hk;rw[z7,zy]at hk;obtain⟨c,e,rfl⟩:=hk;exact⟨c,e,rfl⟩
     obtain⟨s,d1⟩:=f6 i (zf Z);obtain⟨q,hq⟩:∃q,f[i]?=some q:=⟨_,z4 s⟩;obtain⟨t,ht⟩:∃t,ts[i]?=some t:=⟨_,z4 (by rw[a7];exact s)⟩;obtain⟨q',a8,a9⟩:=AA d6 ht;rw[hq]at a8;cases a8;have e3:=G.good q (zf hq);have j5:Bj r q=[]:=by rw[G.Ze i q hq,ya]at d1;exact d1
     refine⟨_,rfl,_,rfl,_,rfl,pl,_,_,V.ref t,rfl,rfl,AI.of (N.sm _ _ e2),AM (by rw[z7,ht];rfl),a,t,r,q,rfl,hA.same N.sm,N.sm _ _ a9,e3,fun H6 s6=>?_⟩;refine⟨K0,fun tw j2=>?_⟩;have f1:=N.same (s6.trans (Af (o:= .tup [.int (Rm r q:Nat),.int 0]) j2));obtain⟨tv,b9,b6⟩:=f1.v;have d8:tv.length=f.length:=by rw[zE b6,PN]
     exists _,rfl,_,rfl,w,_,_,i,rfl,rfl,b9,by rw[z3,d8];exact Ex s,_,rfl;rw[yi,Z,xP,dO s];have ee:(BA r f).getD i none=some (Rm r q,0):=by unfold BA;rw[getD_map' _ _ _ _ _ hq,Xb j5]
     rw[ee];exact f1.lK S i b9 Aa
    ·rintro σ H' ⟨O,rfl,N⟩;have e7:Q0.take (nV Q0).length=Q0:=by unfold nV;rw[z3,y1]
     rw[e7,<-c3,iJ G,c3]at N;have I0:Ln f.length (Cc f) l (BA r f) ⟨BA r f,l.map fun es=>(es.length:Int),Q0⟩ 0:=Ln.start G.gr rfl (by simp[G.len]) (fun i Z=>by show(l.map fun es=>(es.length:Int)).getD i 0=_;have e:l[i]?=some (l.getD i []):=Qr (by rw[G.len];exact Z);rw[getD_map' _ _ _ _ _ e]) c3.symm;have f4:∀{b:B}{d:Nat},Ln f.length (Cc f) l (BA r f) b d->b.queue.length<=f.length:=fun{b d} I=>by
      have e:((List.range f.length).filter fun x=>decide (x∈b.queue)).length<=f.length:=by have:=xy (fun x=>decide (x∈b.queue)) (List.range f.length);rwa[yj]at this
      have pm:b.queue.Perm ((List.range f.length).filter fun x=>decide (x∈b.queue)):=(w9 I.nd (wW.filter _)).mpr fun x=>by rw[zS,zC,zJ];exact⟨fun h=>⟨I.lt x h,h⟩,fun h=>h.2⟩
      rw[pm.length_eq];exact e
     exists fun m σ H'=>E5 fun(b:B) (d:Nat) (O v9 u:Option V)=>A4 (σ=[some (.ref a),some (.ref pl),some (.ref fl),some (.ref w),some (.ref J),some (.ref el),some (.ref P),O,some (.int (d:Nat)),v9,u,none]) (m=f.length-d) (Ln f.length (Cc f) l (BA r f) b d) (VS H H' w J P el ds (Fq l l.length) b),⟨f.length,_,0,O,none,none,rfl,rfl,I0,N⟩;rintro m σ H' ⟨b,d,O,v9,u,rfl,rfl,I,N⟩;exists _,rfl,_,rfl,P,_,rfl,.inl (AI.of N.q),_,_,rfl,rfl,_,rfl;have X:=f4 I;by_cases hd:d<b.queue.length
     ·refine BI (zj (by unfold nV;rw[z3];lia)) ?_;obtain⟨x,hx⟩:∃x,b.queue[d]?=some x:=⟨_,z4 hd⟩;have g2:=zf hx;have d9:x<f.length:=I.lt x g2;have i8:=(I.NO x d9).mpr g2;obtain⟨⟨L,mn⟩,hv⟩:∃wm:Nat×Nat,b.vals.getD x none=some wm:=by cases e:b.vals.getD x none with|none=>exact absurd e i8|some z=>exact⟨z,rfl⟩
      obtain⟨tv,b9,b6⟩:=N.v;have d8:tv.length=f.length:=by rw[zE b6,I.vl]
      obtain⟨tx,g6⟩:∃tx,tv[x]?=some tx:=⟨_,z4 (by rw[d8];exact d9)⟩;obtain⟨vx,i9,g7⟩:=AA b6 g6;have k2:vx=some (L,mn):=by rw[z5,i9]at hv;exact hv
      subst k2;have f5:YL (nV b.queue) ((d:Nat):Int)=some (.int (x:Nat)):=AM (by unfold nV;rw[z7,hx];rfl);exists fun e9 a5=>E4 fun(b':B) (O v9 u:Option V)=>A3 (e9=[some (.ref a),some (.ref pl),some (.ref fl),some (.ref w),some (.ref J),some (.ref el),some (.ref P),O,some (.int ((d+1:Nat):Int)),v9,u,none]) (Ln f.length (Cc f) l (BA r f) b' (d+1)) (VS H a5 w J P el ds (Fq l l.length) b'),?_;·rintro e9 a5 ⟨b',O,v9,u,rfl,I',i1⟩;exact⟨f.length-(d+1),∅,b',d+1,O,v9,u,rfl,rfl,I',i1⟩
      ·exists _,rfl,_,rfl,_,rfl,P,_,_,_,rfl,rfl,AI.of N.q,f5,w,_,_,V.ref tx,rfl,rfl,AI.of b9,AM (by rw[z7,g6];rfl);have i7:ds.length=l.length:=by rw[zE N.d];simp[Fq]
       obtain⟨c5,e4⟩:∃c5,ds[x]?=some c5:=⟨_,z4 (by rw[i7,G.len];exact d9)⟩;obtain⟨D,d0,h2⟩:=AA N.d e4;have d3:(Fq l l.length).getD x []=D:=by rw[z5,d0];rfl
       refine⟨_,rfl,_,rfl,_,rfl,P,_,_,_,rfl,rfl,AI.of N.q,f5,el,_,_,V.ref c5,rfl,rfl,AI.of N.e,AM (by rw[z7,e4];rfl),c5,rfl,⟨_,AI.of h2⟩,Gy (xs:=nV D) (fun k σ a5=>E4 fun(b':B) (b7:List Nat) (O u:Option V)=>A4 (σ=[some (.ref a),some (.ref pl),some (.ref fl),some (.ref w),some (.ref J),some (.ref el),some (.ref P),O,some (.int (d:Nat)),some (.ref tx),u,none]) (dv f.length (Cc f) L mn b (D.take k) b' b7) (VS H a5 w J P el ds (Fq l l.length) b') (Ci a5 tx ((L:Nat),(mn:Nat)))) ⟨b,[],O,u,rfl,dv.start I.vl I.ul,N,g7⟩ (fun k σ a5 Y ⟨_,_,_,_,_,_,z,_⟩=>?_) ?_ ?_⟩;·obtain⟨es,h1,j7⟩:=AA z.d e4;rw[d0]at h1;cases h1;exact AI.of j7
       ·rintro k v σ H1 hk ⟨C,b7,O,u,rfl,M,a2,c6⟩;obtain⟨i,Z,rfl⟩:∃i,D[k]?=some i/\v= .int (i:Nat):=by unfold nV at hk;rw[z7,zy]at hk;obtain⟨c,e,rfl⟩:=hk;exact⟨c,e,rfl⟩
        have c0:(Fq l l.length).getD x []=D.take k++i::D.drop (k+1):=by rw[d3];obtain⟨j6,e'⟩:=z8.mp Z;rw[<-e',<-yf j6,sI]
        obtain⟨s,a9⟩:=dv.pos G.gr I hx c0;obtain⟨c8,M'⟩:=M.step s a9;have d4:C.EB.length=f.length:=M.ul;obtain⟨uz,g4⟩:∃uz,C.EB[i]?=some uz:=⟨_,z4 (by rw[d4];exact s)⟩;have c4:C.EB.getD i 0=uz:=by rw[z5,g4];rfl
        refine⟨_,rfl,_,rfl,J,_,_,_,rfl,rfl,AI.of a2.u,AM (by rw[z7,g4];rfl),uz,1,rfl,rfl,J,_,_,i,rfl,rfl,a2.u,by rw[z3,d4];exact Ex s,?_⟩;have a0:=a2.oo S i (uz-1);have a3:Ci (Av H1 J (.lst ((C.EB.map V.int).set i (.int (uz-1))))) tx ((L:Nat),(mn:Nat)):=C7 a2.u (by intro xs z;cases z) _ _ c6;generalize(Av H1 J (.lst ((C.EB.map V.int).set i (.int (uz-1)))))=e8 at a0 a3|-;obtain⟨q,hq⟩:∃q,f[i]?=some q:=⟨_,z4 s⟩;obtain⟨t,ht⟩:∃t,ts[i]?=some t:=⟨_,z4 (by rw[a7];exact s)⟩;obtain⟨q',a8,e1⟩:=AA d6 ht;rw[hq]at a8;cases a8;have b3:(Cc f).getD i 0=q.2:=getD_map' _ _ _ _ _ hq;cbv;refine CS (UM (Lq (decide (q.2=L)) (decide (uz-1=0)) (fun Q' q'=>⟨_,rfl,_,rfl,pl,_,_,V.ref t,rfl,rfl,AI.of (a0.sm _ _ e2),AM (by rw[z7,ht];rfl),t,_,_,V.int (q.2:Nat),rfl,rfl,.of (a0.sm _ _ e1),rfl,_,rfl,tx,_,_,V.int (L:Nat),rfl,rfl,.of a3,rfl,rfl,Ur q' (Ey.trans (y3.mpr ⟨fun z=>∅,fun z=>∅⟩))⟩) (fun Y Q' q'=>⟨_,rfl,_,rfl,J,_,_,V.int (uz-1),rfl,rfl,AI.of a0.u,AM (by rw[z7];cbv;rw[wL (by rw[d4];exact s)];rfl),rfl,Ur q' Ey⟩) (Ax ?_)));cbv;refine DG ?_;have h7:L<=1:=I.who x _ hv;obtain⟨d5,a1,c7⟩:=a0.v;have c9:d5.length=f.length:=by rw[zE c7];exact M.vl
        obtain⟨ti,g8⟩:∃ti,d5[i]?=some ti:=⟨_,z4 (by rw[c9];exact s)⟩;obtain⟨vi,j1,f2⟩:=AA c7 g8;have e5:C.vals.getD i none=vi:=by have:C.vals[i]?=some vi:=j1;rw[z5,this];rfl
        have f0:∀y,vi=some y->y.1<=1:=fun y hy=>by
         by_cases hnew:i∈b7;·have:=M.KS i hnew;rw[e5,hy]at this;cases this;exact h7
         ·have:=M.Rn i hnew;rw[e5,hy]at this;exact I.who i _ this.symm
        refine DI (decide (C.vals.getD i none=none)) (decide (q.2=L) ||decide (uz-1=0)) (fun Q' q'=>⟨_,rfl,_,rfl,w,_,_,V.ref ti,rfl,rfl,AI.of a1,AM (by rw[z7,g8];rfl),ti,_,_,V.int (Cv vi).1,rfl,rfl,.of f2,rfl,rfl,_,rfl,HK q' (Ey.trans (y3.mpr (by
         rw[e5];cases j0:vi with
         |none=>exact⟨fun Y=>rfl,fun Y=>rfl⟩
         |some y=>
          have:=f0 y j0;constructor;·intro z;change((y.1:Nat):Int)=2 at z;lia
          ·intro z;cases z)))⟩) (fun Y Q' q'=>⟨_,rfl,_,rfl,q'⟩) ?_;have h4:D.take (k+1)=D.take k++[i]:=by rw[yi,Z];rfl
        by_cases hcond:C.vals.getD i none=none/\((Cc f).getD i 0=L\/C.EB.getD i 0-1=0)
        ·have b4:G9 (Cc f) L mn C i=⟨C.vals.set i (some (L,mn+1)),C.EB.set i (uz-1),C.queue++[i]⟩:=by unfold G9;rw[zc hcond,c4]
         rw[b3,c4]at hcond;refine BI (by rw[zj hcond.1,wB,yt,zJ,zJ];exact hcond.2) ⟨_,rfl,tx,_,_,V.int (L:Nat),rfl,rfl,.of a3,rfl,_,rfl,tx,_,_,V.int (mn:Nat),rfl,rfl,.of a3,rfl,_,_,rfl,rfl,K0,fun tn j3=>?_⟩;have sN:Ap e8 (Av e8 tn (.tup [.int (L:Nat),.int ((mn:Nat)+1:Int)])):=Af j3;have h9:=a0.same sN;refine⟨_,rfl,_,rfl,w,_,_,i,rfl,rfl,sN _ _ a1,by rw[z3,c9];exact Ex s,?_⟩;have b5:=h9.lK S (v:=some (L,mn+1)) (t:=tn) i (sN _ _ a1) Aa;have i3:Ci (Av (Av e8 tn (.tup [.int (L:Nat),.int ((mn:Nat)+1:Int)])) w (.lst ((d5.map V.ref).set i (.ref tn)))) tx ((L:Nat),(mn:Nat)):=C7 (sN _ _ a1) (by intro xs z;cases z) _ _ (sN _ _ a3);have lq:C.queue.length<sizeLine:=by rw[M.q,zd];have:=X_ M.nd M.lt;have:(400:Nat)<sizeLine:=⋯;lia
         refine⟨_,rfl,.inl ⟨rfl,_,AI.of b5.q⟩,_,rfl,P,_,_,rfl,rfl,b5.q,by unfold nV;rw[z3];exact lq,?_⟩;have h8:=b5.app S i;have i2:Ci _ tx ((L:Nat),(mn:Nat)):=C7 (o':= .lst (nV C.queue++[.int (i:Nat)])) b5.q (by intro xs z;cases z) _ _ i3;exact⟨_,c8,_,_,rfl,by rw[h4];exact M',by rw[b4];exact h8,i2⟩
        ·have b4:G9 (Cc f) L mn C i=⟨C.vals,C.EB.set i (uz-1),C.queue⟩:=by unfold G9;rw[zb hcond,c4]
         rw[b3,c4]at hcond;exact B8 (by rw[vC];intro z;rw[zp,yt,zJ,zJ,zJ]at z;exact hcond z) ⟨_,c8,_,_,rfl,by rw[h4];exact M',by rw[b4];exact a0,a3⟩
       ·rintro σ H1 ⟨C,b7,O,u,rfl,M,a2,c6⟩;have:(nV D).length=D.length:=by unfold nV;rw[z3]
        rw[this,y1,<-d3]at M;have I':=M.inv G.gr I hx hv;exact⟨_,rfl,_,_,rfl,rfl,C,O,_,u,rfl,I',a2⟩
     ·refine B8 (zo (by unfold nV;rw[z3];lia)) ?_;have k8:=I.dl;have:d=b.queue.length:=∅;subst this;have F:=I.fix G.gr;exact⟨_,rfl,k H' w N.sm f9 (by rw[G.values F];exact N.v) (by rw[G.values F];exact F)⟩
def Ew(a:Bool)(b:Nat)(y g:List Nat):Bool:=!decide (75∈y) ||(!decide (104∈y) ||((!a||!decide (b=0))&&!decide (83∈g)))
inductive Wb:_|mk(sd:Addr)(kvs:List (Key×V))(y g:List Nat)(passed:Bool)(seat len:Nat):vs=[.ref sd,.int len]->H sd=some (.dK kvs)->Ba kvs (Sum.inr "start")=some (.str (Ak y))->Ba kvs (Sum.inr "ground")=some (.str (Ak g))->Ba kvs (Sum.inr "passed")=some (.int (b2 passed))->Ba kvs (Sum.inr "seat")=some (.int seat)->(∀H' l,Ap H H'->H l=none->B7 H' l (if Ew passed seat y g=true then[((len:Int),6)]else[])->Q (.ref l) H')->Wb vs H Q E
theorem ji:Ah ["said","length","seat_needed","at_fault"] ["said","length"] (Ad ZS):={}
theorem Yt(O:AY):FJ 1 "missing_faults" ["said","length"] Wb:=by
 refine O.Ki.has fun F=>F.ok ji fun H Q E N h=>?_;obtain⟨d,s,y,g,m,a,r,rfl,u,B,I,G,J,k⟩:=h;have n:=Gq N;have p:∀{A:Hp}{x:Str}{v:V},Ap H A->Ba s (Sum.inr x)=some v->CO A d (.str x) (some v):=fun{A x v} L M=>M▸CO.k (k:=Sum.inr x) (L _ _ u);have j:=AQ H;exists%[An (i:=2) ji.nd (OS (Bn AX (A8 n (pv 0) Ai) Ae) (ED (Bn Hr (A8 n (pv 0) Ai) Ae))),An (i:=3) ji.nd (OS (Bn Dt Ai (A8 n (pv 0) Ai) #v[]) (OS (Bn Dt Ai (A8 n (pv 0) Ai) #v[]) (ED (MC (pv 2) (ED (Bn Dt Ai (A8 n (pv 0) Ai) #v[])))))) |Aj (D4 (BS (pv 3)) (AE (#v[B2 (#v[pv 1,Ae])])) (AE Cd))];refine CS (UM (Lq (!m) (!decide (a=0)) (fun c b=>⟨_,rfl,d,V.int (b2 m),rfl,p j G,rfl,Ur b kI⟩) (fun Y c b=>⟨_,rfl,d,V.int a,rfl,p j J,rfl,Ur b (zT Bool.not (Ey.trans (y3.mpr ⟨fun z=>∅,fun z=>∅⟩)))⟩) (Ax ?_)));cbv;refine CS (UM ?_);generalize w:(!m||!decide (a=0))=q;refine Lq (!decide (75∈y)) (!decide (104∈y) ||(q&&!decide (83∈g))) (fun c b=>⟨_,rfl,d,V.str (Ak y),rfl,p j B,75,Ak y,rfl,rfl,Ur b (by rw[Bb])⟩) (fun Y c b=>Lq (!decide (104∈y)) (q&&!decide (83∈g)) (fun c b=>⟨_,rfl,d,V.str (Ak y),rfl,p j B,104,Ak y,rfl,rfl,Ur b (by rw[Bb])⟩) (fun Y c b=>Rz q (!decide (83∈g)) (fun c b=>⟨_,rfl,b⟩) (fun Y c b=>⟨_,rfl,d,V.str (Ak g),rfl,p j I,83,Ak g,rfl,rfl,Ur b (by rw[Bb])⟩) b) b) (Ax ?_);cbv;have e:Ew m a y g=(!decide (75∈y) ||(!decide (104∈y) ||(q&&!decide (83∈g)))):=by unfold Ew;rw[w]
 rw[<-e];exists _,rfl,_,rfl;cases D:Ew m a y g with|true=>rw[D,zc rfl]at k;refine BI rfl ⟨_,rfl,K0,fun K t=>⟨Js,fun l f=>?_⟩⟩;have C:=Af (o:= .tup [.int r,.int 6]) t;exact k _ l (C.trans (Af f)) (C.free f) ⟨[K],Aa,.cons (Af f _ _ Aa) .nil⟩ |false=>rw[D,zb ⋯]at k;exact B8 rfl ⟨zx _,fun l f=>k _ l (Af f) f ⟨[],Aa,.nil⟩⟩
end He
namespace L2
open PySem PySem.Spec PyProof.Rows
def KH(K:Frag)(H:Hp):Prop:=∀b o,K.lookup b=some o->H b=none
def gQ(K:Frag)(t:TS):TS:=fun D a H=>KH K H->t D a H
theorem Qj{X:Cx}{c:Stmt}{t:TS}(h:PS X c t):PS X c (gQ X.K t):=fun a s d H D I f=>h a s d H D I (f fun b o e=>(I.bs b o (I.ok.mod.dD b o e)).2)
end L2
namespace He
open PySem PySem.Spec PyProof.Rows L2
open PySem.W (Frag)
def AL(a:List (Key×V))(b:List (Str×V)):Prop:=(∀j:Str,Ba a (Sum.inr j)=b.lookup j)/\a.length<=b.length
theorem AL.put{a:List (Key×V)}{b:List (Str×V)}(h:AL a b)(k:Str)(v:V):AL (putK a (Sum.inr k) v) ((k,v)::b):=by
 refine⟨fun j=>?_,?_⟩
 ·rw[Ro,yp];by_cases e:j=k;·subst e;simp
  ·rw[zb (fun z=>e (Sum.inr.inj z)),zL.mpr e];exact h.1 j
 ·have:=h.2;unfold putK;split;·rw[z3,zm];lia
  ·rw[zd,zm,zm];simp;lia
theorem DA.trans{d c:Hp}(h:DA a H d)(f:DA a d c):DA a H c:=fun b o e n=>f b o (h b o e n) n
structure Gs(C:Addr)(H0:Hp)(a:Addr)(x:Str)(b:Bytes)(sd:Addr)(ent:List (Str×V))(c:Cur)(H:Hp):Prop where
 rd:Cw C H a x c.at_
 rest:c.rest=b.drop c.at_
 but:DA a H0 H
 dict:∃kvs,H sd=some (.dK kvs)/\AL kvs ent
section
variable{C CA a sd:Addr}{x:Str}{b:Bytes}{H0 H:Hp}{ent:List (Str×V)}{c:Cur}{E:XK}{D:Ends}{σ:L2.St}
theorem Gs.on(S:Gs C H0 a x b sd ent c H)(k:H0 sd=none)(e:sd≠a){c':Cur}(h:Cw C H' a x c'.at_)(d:c'.rest=b.drop c'.at_)(g:DA a H H'):Gs C H0 a x b sd ent c' H':=by obtain⟨f,j,i⟩:=S.dict;exact⟨h,d,S.but.trans g,f,g _ _ j e,i⟩
theorem Gs.put(S:Gs C H0 a x b sd ent c H)(m:H0 sd=none)(g:sd≠a)(w:ent.length<1000){d:Str}{v:V}(k:∀H',Gs C H0 a x b sd ((d,v)::ent) c H'->D.nx σ H'):∃j l,V.ref sd= .ref j/\Rf H j (.str d) v l/\D.nx σ l:=by
 obtain⟨⟨s,q⟩,f,t,h,r,i⟩:=S;have p:h.length<sizeLine:=by have:=i.2;have:(1000:Nat)<sizeLine:=⋯;lia
 refine⟨sd,_,rfl,Rf.k (k:=Sum.inr d) r p,k _ ⟨⟨s,by rw[Ac (zN g)];exact q⟩,f,fun u o e n=>?_,_,Aa,i.put d v⟩⟩;rw[Ac (Ab e m)];exact t u o e n
theorem Eu{y:Str}{g:Bytes}{m:TE}(s:Tx x b)(u:H0 sd=none)(i:sd≠a)(S:Gs C H0 a x b sd ent c H)(v:σ[0]?=some (some (.ref a)))(j:∀Q:VK,Q (.str y) H->m σ H Q)(r:Wd y g)(z:g≠[])(A:g.length<=1000)(k:HM.Res (lit g c) (fun q=>∀H',Gs C H0 a x b sd ent q H'->D.nx σ H') fun e=>FN a CA e H0 E):Rx (DF C "take" (J0 C CA) [] E (Bi 0) (Bc m B_)) D σ H:=by obtain⟨f,p⟩:=c;obtain⟨o,n⟩:=S.rd;have w:f=b.drop p:=S.rest;subst w;refine⟨_,v,a,o,_,rfl,n,C4 _ _,j _ ⟨a,x,y,b,g,p,rfl,⟨o,n⟩,s,r,z,A,?_⟩⟩;cases h:lit g ⟨b.drop p,p⟩with|error e=>rw[h]at k;exact fun H' d B l=>k H' d B (S.but.trans l) |ok q=>rw[h]at k;exact fun H' t f l=>k H' (S.on u i t f l)
theorem aq(m:Tx x b)(q:H0 sd=none)(g:sd≠a)(S:Gs C H0 a x b sd ent c H)(r:σ[0]?=some (some (.ref a)))(k:HM.Res (nameIn c) (fun n=>∀H',Gs C H0 a x b sd ent n.2 H'->D.nx σ H') fun e=>FN a CA e H0 E):Rx (DF C "take_name" (Fk C CA) [] E (Bi 0) (Bc (tC (.int 16)) B_)) D σ H:=by obtain⟨f,p⟩:=c;obtain⟨l,j⟩:=S.rd;have s:f=b.drop p:=S.rest;subst s;exists _,r,a,l,_,rfl,j,C4 _ _,a,x,b,p,rfl,⟨l,j⟩,m;cases h:nameIn ⟨b.drop p,p⟩with|error e=>rw[h]at k;exact fun H' d t i=>k H' d t (S.but.trans i) |ok n=>rw[h]at k;exact fun H' o f i=>k H' (S.on q g o f i)
theorem UK{i:Str}{lo hi:Nat}(r:Tx x b)(m:H0 sd=none)(g:sd≠a)(S:Gs C H0 a x b sd ent c H)(t:σ[0]?=some (some (.ref a)))(j:σ[1]?=some (some (.ref sd)))(y:1<=lo)(w:hi<=60000)(v:ent.length<1000)(k:HM.Res (number lo hi c) (fun n=>∀H',Gs C H0 a x b sd ((i,.int (n.1:Nat))::ent) n.2 H'->D.nx σ H') fun e=>FN a CA e H0 E):RQ (Bi 1) (tC (.str i)) (DF C "take_number" (G6 C CA) [] E (Bi 0) (Bc (tC (.int (lo:Nat))) (Bc (tC (.int (hi:Nat))) B_))) D σ H:=by obtain⟨f,p⟩:=c;obtain⟨q,o⟩:=S.rd;have u:f=b.drop p:=S.rest;subst u;exists _,t,a,q,_,rfl,o,C4 _ _,a,x,b,p,lo,hi,rfl,⟨q,o⟩,r,y,w;cases h:number lo hi ⟨b.drop p,p⟩with|error e=>rw[h]at k;exact fun H' d z l=>k H' d z (S.but.trans l) |ok n=>rw[h]at k;obtain⟨n,A⟩:=n;exact fun H' s f l=>⟨_,j,(S.on m g s f l).put m g v k⟩
theorem M6{key:Str}{g:TE}(T:du K C)(h:H0 sd=none)(d:sd≠a)(S:Gs C H0 a x b sd ent c H)(i:σ[0]?=some (some (.ref a)))(f:σ[1]?=some (some (.ref sd)))(e:∀Q:VK,Q (.str key) H->g σ H Q)(j:ent.length<1000)(k:∀H',Gs C H0 a x b sd ((key,.int (c.at_:Nat))::ent) c H'->D.nx σ H'):RQ (Bi 1) g (Uz K (Bi 0) "place") D σ H:=by obtain⟨m,l⟩:=S.rd;exact⟨_,i,a,C,m,_,_,rfl,l,T.cl,T.nP,Bp _ _,_,f,e _ (S.put h d j k)⟩
theorem XE{key:Str}{ws:List String}{ys:List Str}{g:Addr}{t:TE}(z:Tx x b)(u:H0 sd=none)(l:sd≠a)(S:Gs C H0 a x b sd ent c H)(G:σ[0]?=some (some (.ref a)))(s:σ[1]?=some (some (.ref sd)))(r:σ[4]?=some (some (.ref g)))(q:∀(H:Hp)(Q:VK),Q (.str key) H->t σ H Q)(N:BQ K g (ys.map V.str))(m:a≠g)(J:Paired Wd ys (ws.map Tafl.ascii))(F:∀f∈ws.map Tafl.ascii,f≠[]/\f.length<=1000)(L:ws.length<=1000)(W:Words ws)(M:ent.length<1000)(k:HM.Res (word ws c) (fun n=>∀H',Gs C H0 a x b sd ((key,.int (n.1:Nat))::ent) n.2 H'->D.nx σ H') fun e=>FN a CA e H0 E):RQ (Bi 1) t (DF C "choose" (EH K C CA) [] E (Bi 0) (Bc (Bi 4) B_)) D σ H:=by obtain⟨j,p⟩:=c;obtain⟨w,v⟩:=S.rd;have I:j=b.drop p:=S.rest;subst I;refine⟨_,G,a,w,_,rfl,v,C4 _ _,_,r,a,g,x,ys,b,ws.map Tafl.ascii,p,rfl,⟨w,v⟩,z,N.sq _,m,J,F,(by rw[Ne,ya];exact W.ne),by rw[z3];exact L,?_⟩;rw[HM.VR W]at k;show(match(ws.map Tafl.ascii).findIdx? (fun f=>decide (shl f (b.drop p)=f.length))with|some i=>_|none=>_);dsimp only at k;cases h:(ws.map Tafl.ascii).findIdx? (fun f=>decide (shl f (b.drop p)=f.length))with|none=>rw[h]at k;exact fun H' d O A=>k H' d O fun y o e n=>A y o (S.but y o e n) |some i=>rw[h]at k;exact fun H' B P=>⟨_,s,q _ _ ((S.on u l (c':=⟨(b.drop p).drop ((ws.map Tafl.ascii).getD i []).length,p+((ws.map Tafl.ascii).getD i []).length⟩) B (by show(b.drop p).drop _=_;rw[xr]) P).put u l M k)⟩
end
theorem X4:Bo [46,83,88,35]=fun u=>(kindSign u).map fun k=>UInt8.ofNat (Ca k):=by funext u;have a:∀n:Nat,n<256->Bo [46,83,88,35] (UInt8.ofNat n)=(kindSign (UInt8.ofNat n)).map fun k=>UInt8.ofNat (Ca k):=∎;have:=a u.toNat u.toNat_lt;rwa[rG]at this
def Hk:Piece->Nat| .none=>46| .hunter=>104| .man=>109| .king=>75
theorem U2:Bo [46,104,109,75]=fun u=>(Tafl.pieceSign u).map fun k=>UInt8.ofNat (Hk k):=by funext u;have a:∀n:Nat,n<256->Bo [46,104,109,75] (UInt8.ofNat n)=(Tafl.pieceSign (UInt8.ofNat n)).map fun k=>UInt8.ofNat (Hk k):=∎;have:=a u.toNat u.toNat_lt;rwa[rG]at this
section
variable{C CA a sd:Addr}{x:Str}{b:Bytes}{H0 H:Hp}{ent:List (Str×V)}{c:Cur}{E:XK}{D:Ends}{σ:L2.St}
theorem W2{B:Type}{f:UInt8->Option B}{j:B->Nat}{q:List Nat}{o:Str}{g:Addr}{w h:Nat}(N:Tx x b)(F:H0 sd=none)(m:sd≠a)(S:Gs C H0 a x b sd ent c H)(U:σ[0]?=some (some (.ref a)))(l:σ[1]?=some (some (.ref sd)))(L:ent.lookup ("wide":Str)=some (.int (w:Nat)))(M:ent.lookup ("high":Str)=some (.int (h:Nat)))(hg:BQ K g (q.map fun c=>V.str ⟨#[c]⟩))(s:a≠g)(Z:∀c∈q,c∈known)(G:1<=w)(t:w<=13)(hh:h<=13)(z:Bo q=fun u=>(f u).map fun k=>UInt8.ofNat (j k))(e2:∀k,j k<256)(X:ent.length<1000)(k:HM.Res (rowsIn f w h c) (fun n=>∀H',Gs C H0 a x b sd ((o,.str (Ak (n.1.flatten.map j)))::ent) n.2.2 H'->D.nx σ H') fun e=>FN a CA e H0 E):RQ (Bi 1) (tC (.str o)) (Kr (Fl K C CA) [] E (Bc (Bi 0) (Bc (tC (.ref g)) (Bc (Zs (Bi 1) (tC (.str "wide"))) (Bc (Zs (Bi 1) (tC (.str "high"))) B_))))) D σ H:=by
 obtain⟨i,p⟩:=c;obtain⟨dx,ha⟩:=S.rd;have W:i=b.drop p:=S.rest;subst W;obtain⟨Q,hd,al⟩:=S.dict;have J:∀{x:Str}{v:V},ent.lookup x=some v->CO H sd (.str x) (some v):=fun{x v} T=>by have:=CO.k (k:=Sum.inr x) hd;rw[al.1,T]at this;exact this
 exists _,U,_,l,sd,_,rfl,J L,_,l,sd,_,rfl,J M,a,g,x,b,p,w,h,q,rfl,⟨dx,ha⟩,N,hg.sq _,s,Z,G,t,hh;have ef:flat (Bo q) w (w*h) 0 ⟨b.drop p,p⟩=(rowsIn f w h ⟨b.drop p,p⟩).map fun r=>(r.1.flatten.map fun k=>UInt8.ofNat (j k),r.2.2):=by rw[z,HM.Py];have:=HM.Px f w G h 0 ⟨b.drop p,p⟩;rw[ud]at this;rw[this];cases rowsIn f w h ⟨b.drop p,p⟩<;>rfl
 rw[ef];cases I:rowsIn f w h ⟨b.drop p,p⟩with|error e=>rw[I]at k;exact fun H' d z A=>k H' d z (S.but.trans A) |ok n=>rw[I]at k;obtain⟨O,ps,c'⟩:=n;refine fun H' y P i A R=>⟨_,l,(S.on F m P i A).put F m X ?_⟩;have:y=Ak (O.flatten.map j):=Dx (by rw[R,zG];apply y6;intro k Y;show(UInt8.ofNat (j k)).toNat=j k;rw[rp];exact xn (e2 k));rw[this];exact k
end
theorem Np{d:Type}(w:Nat):∀(l:List (List d)),(∀a∈l,a.length=w)->∀(i x:Nat),x<w->l.flatten[i*w+x]?=(l[i]?).bind fun a=>a[x]?|[],_,i,x,_=>by simp|a::l,h,0,x,c=>by have b:=h a zh;rw[y_,Nat.zero_mul,xQ,yr ∅];rfl|a::l,h,i+1,x,c=>by have b:=h a zh;rw[y_,yC (by rw[b,wg];lia)];rw[show(i+1)*w+x-a.length=i*w+x by rw[b,wg];lia];exact Np w l (fun r b=>h r (zg _ b)) i x c
theorem NI{r:Rules}(Z:B0 r)(g:r.ground.length=r.high)(e:∀b∈r.ground,b.length=r.wide):A1 (r.ground.flatten.map Ca) r.wide r.high 35 (r.wide*r.high)=CB r:=by
 unfold A1 CB;refine y6 fun c j=>?_;unfold Rules.kindAt;by_cases hcell:c%13<r.wide/\c/13<r.high
 ·have k:=Z.h5;have d:(r.high-1-c/13)*r.wide+c%13<r.wide*r.high:=by have i:(r.high-1-c/13)+1<=r.high:=∅;have h:=uv r.wide i;rw[wg,yh r.high]at h;lia
  rw[zc ⟨hcell.1,hcell.2,d⟩,zc (BH.mpr hcell),z5,z7,Np r.wide r.ground e _ _ hcell.1];unfold Rules.kind at_;rw[show STRIDE=13 from rfl,z5,z5];have a:r.high-1-c/13<r.ground.length:=by rw[g];lia
  rw[z4 a];have f:c%13<(r.ground[r.high-1-c/13]).length:=by rw[e _ (wo a)];exact hcell.1
  show((some (r.ground[r.high-1-c/13])).bind _|>.map Ca).getD 35=_;simp only[wU,vY];rw[z4 f];rfl
 ·rw[zb (fun q=>hcell ⟨q.1,q.2.1⟩),zb (fun q=>hcell (BH.mp q))];rfl
structure dm(kvs:List (Key×V))(r:Rules):Prop where
 wide:Ba kvs (Sum.inr "wide")=some (.int r.wide)
 high:Ba kvs (Sum.inr "high")=some (.int r.high)
 ground:Ba kvs (Sum.inr "ground")=some (.str (Ak (r.ground.flatten.map Ca)))
 slides:Ba kvs (Sum.inr "slides")=some (.int (b2 r.slides))
 armed:Ba kvs (Sum.inr "armed")=some (.int (b2 r.armed))
 four:Ba kvs (Sum.inr "four")=some (.int (b2 r.four))
 passed:Ba kvs (Sum.inr "passed")=some (.int (b2 r.passed))
 seat:Ba kvs (Sum.inr "seat")=some (.int r.seat)
 exits:Ba kvs (Sum.inr "exits")=some (.int r.exits)
 goal:Ba kvs (Sum.inr "goal")=some (.int r.goal)
theorem Jf{b:Type}(w:Nat):∀(l:List (List b)),(∀a∈l,a.length=w)->l.flatten.length=w*l.length|[],_=>by simp|a::l,h=>by rw[y_,zd,h a zh,Jf w l fun r c=>h r (zg _ c),zm,xR];lia
inductive Mh(C:Addr):_|mk(H0:Hp)(e sd:Addr)(r:Rules)(kvs:List (Key×V)):vs=[.ref e,.ref sd]->(∃dx,H e=some (.ins C dx []))->Ap H0 H->H0 e=none->H0 sd=some (.dK kvs)->dm kvs r->B0 r->Of r->r.ground.length=r.high->(∀row∈r.ground,row.length=r.wide)->(∀H',Bf C H' e r->Ap H0 H'->Q .Bz H')->Mh C vs H Q E
structure FS(C e:Addr)(dx:Addr)(H0 L:Hp)(fs:List (Str×V))(k:Nat)(H:Hp):Prop where
 sm:Ap H0 H
 at_:H e=some (.ins C dx fs)
 len:fs.length<=k
 ls:∀b l,L b=some (.lst l)->H b=some (.lst l)
section
variable{C e:Addr}{dx:Addr}{H0 L H:Hp}{fs:List (Str×V)}{k:Nat}(s:FS C e dx H0 L fs k H)
include s
theorem FS.put(a:H0 e=none)(n:Str)(v:V):FS C e dx H0 L (Bx n v fs) (k+1) (Av H e (.ins C dx (Bx n v fs))):=⟨Bu s.sm a,Aa,z_ (Gk ..) (Nat.succ_le_succ s.len),fun b l z=>by have z:=s.ls b l z;rw[Ac fun q=>by rw[q,s.at_]at z;cases z];exact z⟩
theorem FS.same(h:Ap H H'):FS C e dx H0 L fs k H':=⟨s.sm.trans h,h _ _ s.at_,s.len,fun Y Y z=>h _ _ (s.ls _ _ z)⟩
theorem FS.anew:FS C e dx H0 H fs k H:=⟨s.sm,s.at_,s.len,fun Y Y z=>z⟩
theorem FS.lt(h:k<1000):fs.length<1000:=y2 s.len h
end
abbrev qG:List Str:=["self","said","cell"]
theorem jk:Ah qG ["self","said"] (Ad JC):={}
theorem QC(a:AY):nO 3 aH ["self","said"] (Mh aH):=by
 refine a.jT.has fun F=>F.ok jk fun H Q E M h=>?_;obtain⟨H0,e,f,r,J,rfl,⟨l,he⟩,D,d,L,S,Z,N,B,A,k⟩:=h;have g:=Gq M;exists%[B1 (pv 0) (A8 g (pv 1) Ai),B1 (pv 0) (A8 g (pv 1) Ai),B1 (pv 0) (Ay (Vp a) M rfl Ar (#v[A8 g (pv 1) Ai,A8 g (pv 1) Ai,A8 g (pv 1) Ai,Ai])),B1 (pv 0) (F_ (own:=[("cell",2)]) rfl jk.nd (ER (by rfl) a.GG (#v[AB (v:= .int 169) rfl (C2 a.QU) ⟨_,rfl⟩])) (Dm (N0:=qG) (sc0:=Ad JC) rfl rfl ∎) (fun Y Y Y Y Y=>Aw (i:=2) jk.nd) (fun Y Y Y Y Y=>Cg) (fun Y Y Y Y Y=>Ay (Ys a) (M.mono ⋯) rfl Ar (#v[pv 2,A8 g (pv 1) Ai,A8 g (pv 1) Ai]))),B1 (pv 0) (A8 g (pv 1) Ai),B1 (pv 0) (A8 g (pv 1) Ai),B1 (pv 0) (A8 g (pv 1) Ai),B1 (pv 0) (A8 g (pv 1) Ai),B1 (pv 0) (A8 g (pv 1) Ai),B1 (pv 0) (A8 g (pv 1) Ai) |B1 (pv 0) (A8 g (pv 1) Ai)];have j:∀{T:Hp}{x:Str}{v:V},Ap H0 T->Ba J (Sum.inr x)=some v->CO T f (.str x) (some v):=fun{T x v} C hx=>hx▸CO.k (k:=Sum.inr x) (C _ _ L);have s:FS aH e l H0 H [] 0 H:=⟨D,he,ze _,fun Y Y z=>z⟩;exists _,rfl,f,_,rfl,j s.sm S.wide,_,rfl,e,aH,l,_,rfl,s.at_,a.hc.cl,a.hc.O_,s.lt ⋯;have s:=s.put d "wide" (.int r.wide);generalize Av _ _ _=H at s|-;exists _,rfl,f,_,rfl,j s.sm S.high,_,rfl,e,aH,l,_,rfl,s.at_,a.hc.cl,a.hc.Pa,s.lt ⋯;have s:=s.put d "high" (.int r.high);generalize Av _ _ _=H at s|-;have p:=s.sm;have K:(Ak (r.ground.flatten.map Ca)).cps.size=r.wide*r.high:=by
  have:(Ak (r.ground.flatten.map Ca)).cps.size=(r.ground.flatten.map Ca).length:=by simp[Ak]
  rw[this,z3,Jf r.wide r.ground A,B]
 have w5:=Z.w5;have h5:=Z.h5;refine⟨_,rfl,f,_,rfl,j p S.ground,_,rfl,f,_,rfl,j p S.wide,_,rfl,f,_,rfl,j p S.high,Ak (r.ground.flatten.map Ca),r.wide,r.high,35,rfl,K,∅,Z.KR,∅,Z.Vt,fun a2 zs t hz=>?_⟩;have ez:zs=Ak (CB r):=Dx (by rw[hz,Bb];exact NI Z B A);subst ez;have a0:=p.trans t;have s:=s.same t;exists _,rfl,e,aH,l,_,rfl,s.at_,a.hc.cl,a.hc.Fv,s.lt ⋯;have s:=s.put d "ground" (.str (Ak (CB r)));generalize Av _ _ _=U at s|-;have s3:=s.sm;refine⟨169,rfl,⋯,⋯,fun u w=>bN (n:=169) (fun i H'=>∃m:List Addr,A4 (Ap U H') (H' u=some (.lst (m.map V.ref))) (m.length=i) (∀c b,m[c]?=some b->H' b=some (.lst (nM r c))/\b≠u)) ⟨[],Af w,Aa,rfl,fun c b z=>by cases z⟩ ?_ ?_⟩
 ·rintro i H' hi ⟨m,W,hj,lj,aj⟩;refine⟨rfl,?_⟩;unfold HF;cbv;rw[zc rfl];have C:=s3.trans W;refine⟨_,rfl,_,rfl,f,_,rfl,j C S.wide,_,rfl,f,_,rfl,j C S.high,i,r.wide,r.high,?_,fun H2 l2 p y h2=>?_⟩;·rw[show(0:Int)+(i:Int)=(i:Int) by lia];rfl
  ·have X:l2≠u:=fun z=>by rw[z,hj]at y;cases y
   refine⟨_,p _ _ hj,by rw[z3,lj];exact zF hi BN,m++[l2],fun b o z=>?_,?_,?_,fun c b q=>?_⟩;·rw[Ac (Ab z w)];exact p _ _ (W _ _ z)
   ·rw[Aa,zu];rfl
   ·rw[zd,lj];rfl
   ·by_cases hcl:c<m.length;·rw[yr hcl]at q;obtain⟨h1,h3⟩:=aj c b q;exact⟨by rw[Ac h3];exact p _ _ h1,h3⟩
    ·rw[yC ∅]at q;have O:c-m.length=0:=by have:=(z8.mp q).1;simp at this;lia
     rw[O]at q;cases q;have:c=i:=∅;subst this;exact⟨by rw[Ac X];exact h2,X⟩
 ·rintro a1 ⟨m,G,P,I,R⟩;have s:=(s.same G).anew;exists _,rfl,e,aH,l,_,rfl,s.at_,a.hc.cl,a.hc.GK,s.lt ⋯;have s:=s.put d "beside" (.ref u);generalize Av _ _ _=H at s|-;exists _,rfl,f,_,rfl,j s.sm S.slides,_,rfl,e,aH,l,_,rfl,s.at_,a.hc.cl,a.hc.WG,s.lt ⋯;have s:=s.put d "slides" (.int (b2 r.slides));generalize Av _ _ _=H at s|-;exists _,rfl,f,_,rfl,j s.sm S.armed,_,rfl,e,aH,l,_,rfl,s.at_,a.hc.cl,a.hc.U_,s.lt ⋯;have s:=s.put d "armed" (.int (b2 r.armed));generalize Av _ _ _=H at s|-;exists _,rfl,f,_,rfl,j s.sm S.four,_,rfl,e,aH,l,_,rfl,s.at_,a.hc.cl,a.hc.hW,s.lt ⋯;have s:=s.put d "four" (.int (b2 r.four));generalize Av _ _ _=H at s|-;exists _,rfl,f,_,rfl,j s.sm S.passed,_,rfl,e,aH,l,_,rfl,s.at_,a.hc.cl,a.hc.WH,s.lt ⋯;have s:=s.put d "passed" (.int (b2 r.passed));generalize Av _ _ _=H at s|-;exists _,rfl,f,_,rfl,j s.sm S.seat,_,rfl,e,aH,l,_,rfl,s.at_,a.hc.cl,a.hc.hR,s.lt ⋯;have s:=s.put d "seat" (.int r.seat);generalize Av _ _ _=H at s|-;exists _,rfl,f,_,rfl,j s.sm S.exits,_,rfl,e,aH,l,_,rfl,s.at_,a.hc.cl,a.hc.bA,s.lt ⋯;have s:=s.put d "exits" (.int r.exits);generalize Av _ _ _=H at s|-;exists _,rfl,f,_,rfl,j s.sm S.goal,_,rfl,e,aH,l,_,rfl,s.at_,a.hc.cl,a.hc.hU,s.lt ⋯;have s:=s.put d "goal" (.int r.goal);generalize Av _ _ _=H at s|-;exact k _ ⟨⟨l,u,m,s.at_.trans #v[],s.ls _ _ P,by rw[I],fun c b z=>s.ls _ _ (R c b z).1⟩,Z,N⟩ s.sm
structure pP(y:Str×Str×List Str)(z:Bytes×List String):Prop where
 wd:Wd y.2.1 z.1
 ne:z.1≠[]
 len:z.1.length<=1000
 ps:Paired Wd y.2.2 (z.2.map Tafl.ascii)
 hw:∀wb∈z.2.map Tafl.ascii,wb≠[]/\wb.length<=1000
 hn:z.2.length<=1000
 W:Words z.2
 short:y.1.length<=100
theorem Dv{y:Str}{a:Bytes}(c:y.cps.toList=a.map UInt8.toNat)(b:∀u∈a,u.toNat∈known):Wd y a:=⟨c,b⟩
theorem ky:Paired pP dJ CH:=by have W:=Rl;unfold dJ;unfold CH at W|-;refine .cons ⟨Dv ∎ ∎,∎,∎,?_,∎,⋯,W _ (by simp),⋯⟩ (.cons ⟨Dv ∎ ∎,∎,∎,?_,∎,⋯,W _ (by simp),⋯⟩ (.cons ⟨Dv ∎ ∎,∎,∎,?_,∎,⋯,W _ (by simp),⋯⟩ (.cons ⟨Dv ∎ ∎,∎,∎,?_,∎,⋯,W _ (by simp),⋯⟩ (.cons ⟨Dv ∎ ∎,∎,∎,?_,∎,⋯,W _ (by simp),⋯⟩ (.cons ⟨Dv ∎ ∎,∎,∎,?_,∎,⋯,W _ (by simp),⋯⟩ (.cons ⟨Dv ∎ ∎,∎,∎,?_,∎,⋯,W _ (by simp),⋯⟩ (.cons ⟨Dv ∎ ∎,∎,∎,?_,∎,⋯,W _ (by simp),⋯⟩ (.cons ⟨Dv ∎ ∎,∎,∎,?_,∎,⋯,W _ (by simp),⋯⟩ .nil))))))));all_goals repeat first|exact .nil|refine .cons (Dv ∎ ∎) ?_
def Y8:List Str->List (Nat×Nat)->List (Str×V)->List (Str×V) |n::ns,p::a,e=>Y8 ns a ((n,.int (p.2:Nat))::(n++(" place":Str),.int (p.1:Nat))::e) |_,_,e=>e
theorem P4(n:Str)(p:Nat×Nat):∀(ns:List Str)(q:List (Nat×Nat))(e:List (Str×V)),ns.length=q.length->Y8 (ns++[n]) (q++[p]) e=(n,.int (p.2:Nat))::(n++(" place":Str),.int (p.1:Nat))::Y8 ns q e|[],[],e,_=>rfl|m::ns,r::q,e,h=>P4 n p ns q _ ‹h›|[],r::q,e,h=>nomatch h|m::ns,[],e,h=>nomatch h
theorem T1:∀(ns:List Str)(q:List (Nat×Nat))(e:List (Str×V)),(Y8 ns q e).length<=e.length+2*q.length|[],q,e=>by show e.length<=_;lia|n::ns,[],e=>ze _|n::ns,p::q,e=>by have:=T1 ns q ((n,.int (p.2:Nat))::(n++(" place":Str),.int (p.1:Nat))::e);simp only[zm]at this|-;exact z_ this ∅
structure pJ(kvs:List (Key×V))(r:Rules)(gp sp:Nat):Prop where
 ok:dm kvs r
 j_:Ba kvs (Sum.inr "ground place")=some (.int (gp:Nat))
 ja:Ba kvs (Sum.inr "start place")=some (.int (sp:Nat))
 start:Ba kvs (Sum.inr "start")=some (.str (Ak (r.start.flatten.map Hk)))
 mP:Ba kvs (Sum.inr "goal place")=some (.int (r.goalAt:Nat))
structure CJ(r:Rules)(gp sp:Nat):Prop where
 Z:B0 r
 N:Of r
 gl:r.ground.length=r.high
 gw:∀row∈r.ground,row.length=r.wide
 sl:r.start.length=r.high
 sw:∀row∈r.start,row.length=r.wide
 ga:r.groundAt=(List.range r.high).map fun i=>gp+i*(r.wide+1)
 sa:r.startAt=(List.range r.high).map fun i=>sp+i*(r.wide+1)
 goal:r.goal<=1
inductive O4(C CA:Addr):_|mk(a:Addr)(x:Str)(b:Bytes):vs=[.ref a]->Cw C H a x 0->Tx x b->(HM.Res (grammar b) (fun r=>∀H' sd kvs gp sp,DA a H H'->H sd=none->sd≠a->H' sd=some (.dK kvs)->pJ kvs r gp sp->CJ r gp sp->Q (.ref sd) H') fun e=>FN a CA e H E)->O4 C CA vs H Q E
theorem Res.gO{c b:Type}{r:Except Nat c}{f:c->b}{G:b->Prop}{B:Nat->Prop}(h:HM.Res (r.map f) G B):HM.Res r (fun a=>G (f a)) B:=by cases r<;>exact h
theorem Xj(h:n<2):((n:Nat):Int)=b2 (n==1):=by match n,h with|0,_=>rfl|1,_=>rfl
abbrev t9:List Str:=["reader","said","called","before","words"]
theorem ZF:Ah t9 ["reader"] (Ad RL):={}
theorem Tc(j:AY):mK 6 "read_grammar" ["reader"] (O4 aR aA):=by
 obtain⟨aC,ts,us,a6,kC,tl,ul,a7⟩:=j.gy;obtain⟨g1,g2,m1,m2,k1,k2⟩:=j.signs;refine j.Nw.has fun F=>F.Ju ZF fun H Q E hr h s=>?_;obtain⟨a,x,b,rfl,⟨dx,ha⟩,m,k⟩:=h;have B:=Gq hr;have p:AV 4 _:=hr.mono ⋯;have C:AV 3 _:=hr.mono ⋯;exists%[Qj (An (i:=1) ZF.nd Si),A2 (AG (Cm j) (pv 0) j.rt.cl p s.passes (#v[Ai])),A2 (AG (Q7 j) (pv 0) j.rt.cl C s.passes (#v[Ae])),A2 (AG (Cm j) (pv 0) j.rt.cl p s.passes (#v[Ai])),CV B (pv 1) Ai (AG (Ez j) (pv 0) j.rt.cl C s.passes (#v[Ae,Ae])) rfl,A2 (AG (Cm j) (pv 0) j.rt.cl p s.passes (#v[Ai])),CV B (pv 1) Ai (AG (Ez j) (pv 0) j.rt.cl C s.passes (#v[Ae,Ae])) rfl,A2 (AG (Cm j) (pv 0) j.rt.cl p s.passes (#v[Ai])),CV B (pv 1) Ai (Al (pv 0)) rfl,CV B (pv 1) Ai (Ay (I_ j) hr rfl s.passes (#v[pv 0,AB (v:= .ref g1) rfl m1 rfl,A8 B (pv 1) Ai,A8 B (pv 1) Ai])) rfl,A2 (AG (Cm j) (pv 0) j.rt.cl p s.passes (#v[Ai])),CV B (pv 1) Ai (Al (pv 0)) rfl,CV B (pv 1) Ai (Ay (I_ j) hr rfl s.passes (#v[pv 0,AB (v:= .ref g2) rfl m2 rfl,A8 B (pv 1) Ai,A8 B (pv 1) Ai])) rfl,BB Br rfl (Ql (AB (v:= .ref aC) rfl a6 rfl)) (Di rfl (AR (Aw (i:=2) ZF.nd) (AR (Aw (i:=3) ZF.nd) (AR (Aw (i:=4) ZF.nd) Cp)))) (%[A2 (AG (Cm j) (pv 0) j.rt.cl p s.passes (#v[pv 3])),CV B (pv 1) (A9 Ee (pv 2) Ai) (Al (pv 0)) rfl|CV B (pv 1) (pv 2) (AG (Nh j) (pv 0) j.rt.cl C s.passes (#v[pv 4])) rfl]),A2 (AG (Cm j) (pv 0) j.rt.cl p s.passes (#v[Ai])),CV B (pv 1) Ai (AG (Ez j) (pv 0) j.rt.cl C s.passes (#v[Ae,Ae])) rfl,A2 (AG (Cm j) (pv 0) j.rt.cl p s.passes (#v[Ai])),A2 (AS (KD j) (pv 0) j.rt.cl C s.passes) |Aj (pv 1)];intro kh;have ka:∀{g:Addr}{xs:List V},BQ K g xs->a≠g:=fun{g xs} z e=>by obtain⟨o,Y,Y,hl,Y⟩:=z;have:=kh g o hl;rw[<-e,ha]at this;cases this
 rw[HM.f_]at k;unfold HM.jZ at k;intro sd l;have f:sd≠a:=(Ab ha l).symm;have S0:Gs aR H a x b sd [] ⟨b,0⟩ (Av H sd (.dK [])):=⟨⟨dx,by rw[Ac (zN f)];exact ha⟩,rfl,fun b' o e Y=>by rw[Ac (Ab e l)];exact e,[],Aa,fun Y=>rfl,ze _⟩;refine Ax ?_;cbv;refine Eu m l f S0 rfl (fun Y q=>q) (Dv ∎ ∎) ∎ ∎ (k.bind.imp (fun c Y k H1 S1=>?_) fun Y z=>z);refine aq m l f S1 rfl (k.bind.imp (fun nm Y k H2 S2=>?_) fun Y z=>z);refine Eu m l f S2 rfl (fun Y q=>q) (Dv ∎ ∎) ∎ ∎ (k.bind.imp (fun c Y k H3 S3=>?_) fun Y z=>z);refine UK (lo:=5) (hi:=13) m l f S3 rfl rfl ⋯ ⋯ ⋯ (k.bind.imp (fun Z a8 k H4 S4=>?_) fun Y z=>z);obtain⟨Z,c4⟩:=Z;obtain⟨w5,R⟩:=JJ ⋯ a8;refine Eu m l f S4 rfl (fun Y q=>q) (Dv ∎ ∎) ∎ ∎ (k.bind.imp (fun c Y k H5 S5=>?_) fun Y z=>z);refine UK (lo:=5) (hi:=13) m l f S5 rfl rfl ⋯ ⋯ (by show 1<1000;decide) (k.bind.imp (fun hg b5 k H6 S6=>?_) fun Y z=>z);obtain⟨hg,c6⟩:=hg;obtain⟨h5,T⟩:=JJ ⋯ b5;refine Eu m l f S6 rfl (fun Y q=>q) (Dv ∎ ∎) ∎ ∎ (k.bind.imp (fun c7 Y k H7 S7=>?_) fun Y z=>z);refine M6 j.rt l f S7 rfl rfl (fun Y q=>q) (by show 2<1000;decide) fun H8 S8=>?_;refine W2 (w:=Z) (h:=hg) m l f S8 rfl rfl #v[] #v[] k1 (ka k1) ∎ ∅ R T X4 (fun k=>by cases k<;>decide) (by show 3<1000;decide) (k.bind.imp (fun gr b6 k H9 S9=>?_) fun Y z=>z);obtain⟨gr,gp,c9⟩:=gr;refine Eu m l f S9 rfl (fun Y q=>q) (Dv ∎ ∎) ∎ ∎ (k.bind.imp (fun U Y k d5 c2=>?_) fun Y z=>z);refine M6 j.rt l f c2 rfl rfl (fun Y q=>q) (by show 4<1000;decide) fun d4 c0=>?_;refine W2 (w:=Z) (h:=hg) m l f c0 rfl rfl #v[] #v[] k2 (ka k2) ∎ ∅ R T U2 (fun k=>by cases k<;>decide) (by show 5<1000;decide) (k.bind.imp (fun st b0 k d3 b9=>?_) fun Y z=>z);obtain⟨st,sp,I⟩:=st;replace k:=k.bind;refine⟨aC,rfl,⟨_,kC.sq _⟩,WW (xs:=ts.map V.ref) (fun i σ H'=>E5 fun v2 v3 v4 q c=>A4 (σ=[some (.ref a),some (.ref sd),v2,v3,v4]) (q.length=i) (Gs aR H a x b sd (Y8 ((dJ.map (·.1)).take i) q _) c H') (Uk CH I=(Uk (CH.drop i) c).map fun z=>(q++z.1,z.2))) ⟨none,none,none,[],I,rfl,rfl,b9,?_⟩ (fun i σ H' Y Y=>kC.sq _) ?_ ?_⟩;·rw[xK];cases Uk CH I<;>rfl
 ·rintro i v σ H' hi ⟨v2,v3,v4,q,c,rfl,ql,S,e⟩;obtain⟨t,ht,rfl⟩:∃t,ts[i]?=some t/\v= .ref t:=by rw[z7,zy]at hi;obtain⟨t,e,rfl⟩:=hi;exact⟨t,e,rfl⟩
  have G:i<9:=by rw[<-tl];exact(z8.mp ht).1
  have a4:CH.length=9:=rfl;obtain⟨y,hy⟩:∃y,dJ[i]?=some y:=⟨_,z4 (show i<dJ.length from G)⟩;obtain⟨z,hz,M⟩:=AA ky hy;obtain⟨u,a9⟩:∃u,us[i]?=some u:=⟨_,z4 (by rw[ul];exact G)⟩;obtain⟨kt,ku⟩:=a7 i t u y ht a9 hy;have ed:CH.drop i=z::CH.drop (i+1):=by rw[yf (by rw[a4];exact G)];congr 1;rw[z4 (by rw[a4];exact G)]at hz;exact zt hz
  rw[ed]at e;have el:=T1 ((dJ.map (·.1)).take i) q [("start",.str (Ak (st.flatten.map Hk))),("start place",.int (U.at_:Nat)),("ground",.str (Ak (gr.flatten.map Ca))),("ground place",.int (c7.at_:Nat)),("high",.int (hg:Nat)),("wide",.int (Z:Nat))];replace el:(Y8 ((dJ.map (·.1)).take i) q [("start",.str (Ak (st.flatten.map Hk))),("start place",.int (U.at_:Nat)),("ground",.str (Ak (gr.flatten.map Ca))),("ground place",.int (c7.at_:Nat)),("high",.int (hg:Nat)),("wide",.int (Z:Nat))]).length<100:=by refine y2 el ?_;show 6+2*q.length<100;lia
  have N:=k;rw[e]at N;replace N:=Res.gO N;rw[Uk]at N;refine⟨t,_,rfl,kt.sq _,rfl,_,_,rfl,_,_,rfl,_,_,rfl,rfl,Eu m l f S rfl (fun Y q=>⟨_,rfl,q⟩) M.wd M.ne M.len (N.bind.imp (fun c1 b7 N d2 b8=>?_) fun Y z=>z)⟩;refine M6 (key:=y.1++(" place":Str)) j.rt l f b8 rfl rfl (fun Y q=>⟨_,rfl,_,_,rfl,rfl,?_,q⟩) (ue el ⋯) fun c8 X=>?_;·have:=M.short;have h2:(200:Nat)<=sizeLine:=⋯;have h3:(" place":Str).length=6:=∎;rw[h3];lia
  refine XE (key:=y.1) (ws:=z.2) (ys:=y.2.2) (g:=u) m l f X rfl rfl rfl (fun Y Y q=>⟨_,rfl,q⟩) ku (ka ku) M.ps M.hw M.hn M.W (by simp only[zm];lia) (N.bind.imp (fun n hn N c5 W=>?_) fun Y z=>z);exists _,_,_,q++[(c1.at_,n.1)],n.2,rfl,by rw[zd,ql];rfl,?_
  ·have et:(dJ.map (·.1)).take (i+1)=(dJ.map (·.1)).take i++[y.1]:=by rw[yi,z7,hy];rfl
   rw[et,P4 _ _ _ _ _ (by rw[zO,ql];exact xf (wj G))];exact W
  ·rw[e,Uk,b7];show Except.map _ ((word z.2 c1).bind _)=_;rw[hn];show Except.map _ ((Uk (CH.drop (i+1)) n.2).bind _)=_;cases Uk (CH.drop (i+1)) n.2 with|error e=>rfl|ok r=>show Except.ok (q++(c1.at_,n.1)::r.1,r.2)=Except.ok (q++[(c1.at_,n.1)]++r.1,r.2);rw[zX];rfl
 ·rintro σ H' ⟨v2,v3,v4,q,c,rfl,ql,S,e⟩;rw[z3,tl]at ql S e;replace e:Uk CH I= .ok (q++[],c):=e;rw[zR]at e;rw[e]at k;replace k:=HM.Res.bind (r:=lit (Tafl.ascii "\nlimit ") c) k;have L:=HM.cW CH Rl I c q e;match q,ql,L,S,k with
  |[p0,p1,p2,p3,p4,p5,p6,p7,p8],_,L,S,k=>
   refine Eu m l f S rfl (fun Y q=>q) (Dv ∎ ∎) ∎ ∎ (k.imp (fun d1 Y k c8 X=>?_) fun Y z=>z);refine UK (lo:=1) (hi:=60000) m l f X rfl rfl ⋯ ⋯ (by show 24<1000;decide) (k.bind.imp (fun lm d0 k c5 W=>?_) fun Y z=>z);refine Eu m l f W rfl (fun Y q=>q) (Dv ∎ ∎) ∎ ∎ (k.bind.imp (fun a5 Y k c3 J=>?_) fun Y z=>z);obtain⟨P,O⟩:=J.rd;have a0:=J.rest;exists _,rfl,a,P,_,rfl,O,C4 _ _,a,x,a5.at_,rfl,⟨P,O⟩,m.line;rw[m.len];by_cases hend:a5.at_<b.length;·rw[zc hend];rw[zb (by rw[a0];intro z;have:=zT List.length z;rw[yI]at this;simp at this;lia)]at k;exact fun H' d e1 sm=>k H' d e1 fun b' o e n=>sm b' o (J.but b' o e n)
   ·rw[zb hend];rw[zc (by rw[a0];exact yN ∅)]at k;obtain⟨D,b4,al⟩:=J.dict;have A:=al.1;refine⟨_,rfl,k c3 sd D c7.at_ U.at_ J.but l f b4 ?_ ?_⟩;·have l1:p1.2<2:=L 1 ⋯;have l2:p2.2<2:=L 2 ⋯;have l3:p3.2<2:=L 3 ⋯;have l4:p4.2<2:=L 4 ⋯;have v1:Ba D (Sum.inr "slides")=some (.int (p1.2:Nat)):=(A _).trans #v[];have v2:Ba D (Sum.inr "armed")=some (.int (p2.2:Nat)):=(A _).trans #v[];have v3:Ba D (Sum.inr "four")=some (.int (p3.2:Nat)):=(A _).trans #v[];have v4:Ba D (Sum.inr "passed")=some (.int (p4.2:Nat)):=(A _).trans #v[];rw[Xj l1]at v1;rw[Xj l2]at v2;rw[Xj l3]at v3;rw[Xj l4]at v4;exact⟨⟨(A _).trans #v[],(A _).trans #v[],(A _).trans #v[],v1,v2,v3,v4,(A _).trans #v[],(A _).trans #v[],(A _).trans #v[]⟩,(A _).trans #v[],(A _).trans #v[],(A _).trans #v[],(A _).trans #v[]⟩
    ·have l5:p5.2<4:=L 5 ⋯;have l6:p6.2<4:=L 6 ⋯;have l7:p7.2<2:=L 7 ⋯;obtain⟨a1,a2,a3,Y,Y⟩:=JD _ _ _ _ _ _ _ b6;obtain⟨b1,b2,b3,Y,Y⟩:=JD _ _ _ _ _ _ _ b0;exact⟨⟨w5,R,h5,T⟩,⟨uT l5,uT l6⟩,a1,a2,b1,b2,a3,b3,uT l7⟩
theorem mN{c:Type}(w:Nat)(b:0<w)(f:Nat->Nat->c):∀h:Nat,((List.range h).flatMap fun i=>(List.range w).map (f i))=(List.range (w*h)).map fun o=>f (o/w) (o%w) |0=>by simp|h+1=>by rw[yg,yd,mN w b f h,yb,xR,qv,zu,zG];congr 1;apply y6;intro x d;have a:=zC.mp d;show f h x=f ((w*h+x)/w) ((w*h+x)%w);rw[uj b,v_ a,ui,xn a];rfl
theorem R0{h q:Nat}(a:q<h):h-1-(h-1-q)=q:=∅
def B5(r:Rules)(o:Nat):Nat×Nat:=(o%r.wide,r.high-1-o/r.wide)
theorem F0{r:Rules}(a:0<r.wide):r.asWritten=(List.range (r.wide*r.high)).map (B5 r):=mN r.wide a (fun i x=>(x,r.high-1-i)) r.high
theorem ai{f:Type}{a:List (List f)}{w h o:Nat}{d:f}{e:Nat}{g:f->Nat}(i:0<w)(p:a.length=h)(j:∀c∈a,c.length=w)(n:o<w*h):(a.flatten.map g).getD o e=g (at_ d a h (o%w) (h-1-o/w)):=by
 have l:o/w<h:=(yw i).mpr (by rw[yh];exact n);have k:o%w<w:=wV _ i;unfold at_;rw[R0 l];have q:o=o/w*w+o%w:=by rw[yh];exact(tH o w).symm
 rw[z5,z7];rw[show a.flatten[o]?=a.flatten[o/w*w+o%w]? by rw[<-q],Np w a j _ _ k];have b:o/w<a.length:=by rw[p];exact l
 rw[z4 b,z5,z5,z4 b];have m:o%w<(a[o/w]).length:=by rw[j _ (wo b)];exact k
 show(((some a[o/w]).bind fun c=>c[o%w]?).map g).getD e=_;simp only[wU,vY];rw[z4 m];rfl
section
variable{r:Rules}{gp sp:Nat}
abbrev Jv(r:Rules):List Nat:=r.start.flatten.map Hk
abbrev Lh(r:Rules):List Nat:=r.ground.flatten.map Ca
theorem gc(G:CJ r gp sp){o:Nat}(a:o<r.wide*r.high):(Lh r).getD o 0=Ca (r.kind (B5 r o).1 (B5 r o).2):=ai (by have:=G.Z.w5;lia) G.gl G.gw a
theorem dM(G:CJ r gp sp){o:Nat}(a:o<r.wide*r.high):(Jv r).getD o 0=Hk (r.piece (B5 r o).1 (B5 r o).2):=ai (by have:=G.Z.w5;lia) G.sl G.sw a
theorem Pw(G:CJ r gp sp):(Lh r).length=r.wide*r.high:=by rw[z3,Jf r.wide r.ground G.gw,G.gl]
theorem Ic(G:CJ r gp sp):(Jv r).length=r.wide*r.high:=by rw[z3,Jf r.wide r.start G.sw,G.sl]
theorem EO(G:CJ r gp sp){o:Nat}(c:o<r.wide*r.high){q:Nat}{l:List Nat}(e:l=(List.range r.high).map fun i=>q+i*(r.wide+1)):l.getD (r.high-1-(B5 r o).2) 0+(B5 r o).1=q+o+o/r.wide:=by
 have b:0<r.wide:=by have:=G.Z.w5;lia
 have a:o/r.wide<r.high:=(yw b).mpr (by rw[yh];exact c);show l.getD (r.high-1-(r.high-1-o/r.wide)) 0+o%r.wide=_;rw[R0 a,e,z5,z7,xh a];show q+o/r.wide*(r.wide+1)+o%r.wide=_;have:=tH o r.wide;rw[xR,yh];lia
theorem d_{k:Piece}:Hk k=75↔k= .king:=by cases k<;>decide
theorem jG(p:Piece)(k:Tafl.Kind):(match p,k with| .none,_=>false|_,.wall=>true| .king,.exit=>true| .king,_=>false|_,.seat=>true|_,.exit=>true|_,.plain=>false)=!Ye (Hk p) (Ca k):=by cases p<;>cases k<;>decide
theorem C8(p:Nat->Bool)(n o:Nat):o∈((List.range n).filter p).drop 1↔o<n/\p o=true/\∃c,c<o/\p c=true:=by
 have b:((List.range n).filter p).Pairwise (· <·):=r9 _ sE;cases h:(List.range n).filter p with
 |nil=>
  constructor;·intro z;cases z
  ·rintro⟨f,d,Y⟩;have:o∈(List.range n).filter p:=zS.mpr ⟨zC.mpr f,d⟩;rw[h]at this;cases this
 |cons a t=>
  rw[h,ve]at b;have mem:∀x,x∈a::t↔x<n/\p x=true:=fun x=>by rw[<-h,zS,zC]
  show o∈t↔_;constructor;·intro z;obtain⟨f,d⟩:=(mem o).mp (zg _ z);exact⟨f,d,a,b.1 o z,((mem a).mp zh).2⟩
  ·rintro⟨f,d,c,j,i⟩;rcases zw.mp ((mem o).mpr ⟨f,d⟩)with e|e
   ·exfalso;rcases zw.mp ((mem c).mpr ⟨∅,i⟩)with g|g;·lia
    ·have:=b.1 c g;lia
   ·exact e
theorem C5{y:List Nat}{o:Nat}(d:o<=y.length):c∈y.take o↔∃b,b<o/\y.getD b 0=c:=by
 rw[List.mem_iff_getElem?];constructor
 ·rintro⟨i,a⟩;rw[wD]at a;split at a;·rename_i h;exact⟨i,h,by rw[z5,a];rfl⟩
  ·cases a
 ·rintro⟨i,a,e⟩;refine⟨i,?_⟩;rw[wD,zc a,z4 ∅];rw[z5,z4 ∅]at e;exact zT some e
theorem mem_getD{y:List Nat}:c∈y↔∃o,o<y.length/\y.getD o 0=c:=by have:=C5 (y:=y) (c:=c) (ze _);rwa[y1]at this
def W7(r:Rules)(c b a:Nat):List (Int×Int):=gF (Lh r) c r.wide (Lh r).length++sF (Jv r) (Lh r) b r.wide (Jv r).length++(if Ct r.goal (Jv r) (Lh r) r.wide r.high=true then[((r.goalAt:Int),5)]else[])++(if Ew r.passed r.seat (Jv r) (Lh r)=true then[((a:Int),6)]else[])
theorem PF(G:CJ r gp sp)(p:Nat×Nat->Bool):r.cells.any p=true↔∃o,o<r.wide*r.high/\p (B5 r o)=true:=by
 have c:0<r.wide:=by have:=G.Z.w5;lia
 rw[xq];unfold Rules.cells Tafl.cellsOf;constructor
 ·rintro⟨q,g,e⟩;obtain⟨y,f,a⟩:=yH.mp g;obtain⟨x,b,rfl⟩:=zk.mp a;clear a;have a:=zC.mp b;rw[zC]at f;exists(r.high-1-y)*r.wide+x,?_;·have k:(r.high-1-y)+1<=r.high:=∅;have j:=uv r.wide k;rw[wg,yh r.high]at j;lia
  ·have m:((r.high-1-y)*r.wide+x)%r.wide=x:=by rw[yh,ui,xn a]
   have l:((r.high-1-y)*r.wide+x)/r.wide=r.high-1-y:=by rw[yh,uj c,v_ a];rfl
   unfold B5;rw[m,l,show r.high-1-(r.high-1-y)=y by lia];exact e
 ·rintro⟨o,h,e⟩;have i:o/r.wide<r.high:=(yw c).mpr (by rw[yh];exact h);exact⟨B5 r o,yH.mpr ⟨r.high-1-o/r.wide,zC.mpr (by generalize o/r.wide=d at i;lia),zk.mpr ⟨o%r.wide,zC.mpr (wV _ c),rfl⟩⟩,e⟩
theorem da(G:CJ r gp sp)(k:Tafl.Kind):(r.cells.any fun p=>r.kind p.1 p.2==k)=decide (Ca k∈Lh r):=by
 rw[zZ,PF G,zq,mem_getD,Pw G];constructor;·rintro⟨o,a,h⟩;exact⟨o,a,by rw[gc G a];rw[zP]at h;rw[h]⟩
 ·rintro⟨o,a,h⟩;exists o,a;rw[gc G a]at h;rw[zP];generalize r.kind (B5 r o).1 (B5 r o).2=z at h;revert h;cases k<;>cases z<;>decide
theorem YN(G:CJ r gp sp)(k:Piece):(r.cells.any fun p=>r.piece p.1 p.2==k)=decide (Hk k∈Jv r):=by
 rw[zZ,PF G,zq,mem_getD,Ic G];constructor;·rintro⟨o,a,h⟩;exact⟨o,a,by rw[dM G a];rw[zP]at h;rw[h]⟩
 ·rintro⟨o,a,h⟩;exists o,a;rw[dM G a]at h;rw[zP];generalize r.piece (B5 r o).1 (B5 r o).2=z at h;revert h;cases k<;>cases z<;>decide
theorem RD(G:CJ r gp sp):r.seats=((List.range (r.wide*r.high)).filter fun o=>(Lh r).getD o 0==83).map (B5 r):=by unfold Rules.seats;rw[F0 (by have:=G.Z.w5;lia),tJ];congr 1;apply vA;intro o a;rw[zC]at a;show(r.kind (B5 r o).1 (B5 r o).2==Tafl.Kind.seat)=_;rw[gc G a,zZ,zP,zP,Lu]
theorem MX(G:CJ r gp sp):r.kings=((List.range (r.wide*r.high)).filter fun o=>(Jv r).getD o 0==75).map (B5 r):=by unfold Rules.kings;rw[F0 (by have:=G.Z.w5;lia),tJ];congr 1;apply vA;intro o a;rw[zC]at a;show(r.piece (B5 r o).1 (B5 r o).2==Piece.king)=_;rw[dM G a,zZ,zP,zP,d_]
theorem filter_nil{y:List Nat}(b:y.length=n):((List.range n).filter fun o=>y.getD o 0==c)=[]↔¬c∈y:=by
 rw[xm,mem_getD,b];constructor;·rintro h ⟨o,a,e⟩;exact h o (zC.mpr a) (by rw[zP];exact e)
 ·intro h o a z;exact h ⟨o,zC.mp a,‹z›⟩
theorem Ts{y:List Nat}(g:y.length=n)(k:c∈y):((List.range n).filter fun o=>y.getD o 0==c).take 1=[y.idxOf c]:=by
 obtain⟨e,l⟩:=GW c y k;have d:y.idxOf c<n:=by rw[<-g];exact(z8.mp e).1
 have f:(y.getD (y.idxOf c) 0==c)=true:=by rw[zP,z5,e];rfl
 have:(List.range n).find? (fun o=>y.getD o 0==c)=some (y.idxOf c):=by rw[vN];refine⟨f,zC.mpr d,fun j i=>?_⟩;have b:j<y.length:=∅;have:=l j i;rw[z4 b]at this;rw[z5,z4 b];simp only[vY,xD,zL];exact fun z=>this (zT some z)
 rw[<-List.head?_filter]at this;cases h:(List.range n).filter fun o=>y.getD o 0==c with|nil=>rw[h]at this;cases this|cons a t=>rw[h]at this;cases this;rfl
theorem cn(G:CJ r gp sp):((r.goal=1/\(r.cells.any fun p=>r.kind p.1 p.2== .exit)=false)\/(r.goal=0/\(r.kings.take 1).any r.onEdge=true))↔Ct r.goal (Jv r) (Lh r) r.wide r.high=true:=by
 have c:0<r.wide:=by have:=G.Z.w5;lia
 rw[da G];unfold Ct;have g:=G.goal;by_cases b:r.goal=1;·rw[zc b];simp only[b,sM,xD,show¬(1:Nat)=0 by decide,false_and,or_false];exact rQ
 ·have f:r.goal=0:=∅;rw[zb b];simp only[f,sM,show¬(0:Nat)=1 by decide,false_and,false_or];rw[MX G,<-vJ,zp,zq,zq];by_cases hk:75∈Jv r
  ·rw[Ts (Ic G) hk];have a:(Jv r).idxOf 75<r.wide*r.high:=by obtain⟨b,Y⟩:=GW 75 (Jv r) hk;rw[<-Ic G];exact(z8.mp b).1
   generalize(Jv r).idxOf 75=o at a|-;have e:o/r.wide<r.high:=(yw c).mpr (by rw[yh];exact a);show(r.onEdge (B5 r o) ||false)=true↔_;rw[wC];unfold Rules.onEdge B5;simp only[yt,zP];generalize o/r.wide=d at e|-;generalize o%r.wide=m;constructor
   ·rintro(((h|h) |h) |h);·exact⟨hk,.inl h⟩
    ·exact⟨hk,.inr (.inr (.inr ∅))⟩
    ·exact⟨hk,.inr (.inl h)⟩
    ·exact⟨hk,.inr (.inr (.inl ∅))⟩
   ·rintro⟨Y,h|h|h|h⟩;·exact .inl (.inl (.inl h))
    ·exact .inl (.inr h)
    ·exact .inr ∅
    ·exact .inl (.inl (.inr ∅))
  ·rw[(filter_nil (Ic G)).mpr hk];constructor;·intro z;cases z
   ·intro z;exact absurd z.1 hk
theorem bC(G:CJ r gp sp):(r.kings=[]\/(r.cells.any fun p=>r.piece p.1 p.2== .hunter)=false\/(r.seats=[]/\¬(r.passed=true/\r.seat=0)))↔Ew r.passed r.seat (Jv r) (Lh r)=true:=by rw[YN G,MX G,RD G,ya,ya,filter_nil (Ic G),filter_nil (Pw G)];unfold Ew;show(¬75∈Jv r\/decide (104∈Jv r)=false\/_)↔_;generalize Jv r=y;generalize Lh r=g;by_cases h1:75∈y<;>by_cases h2:104∈y<;>by_cases h3:83∈g<;>cases r.passed<;>by_cases h4:r.seat=0<;>simp[h1,h2,h3,h4]
theorem Um(G:CJ r gp sp)(n k p:Nat):(k,p)∈wrongs n r↔((p:Int),(k:Int))∈W7 r gp sp n:=by
 have C:0<r.wide:=by have:=G.Z.w5;lia
 unfold wrongs W7;simp only[zD];have B:(k,p)∈(r.seats.drop 1).map (fun q=>(2,r.groundPlace q))↔((p:Int),(k:Int))∈gF (Lh r) gp r.wide (Lh r).length:=by
  rw[RD G,<-vK,zG,zk,Pw G];unfold gF;rw[yH];constructor;·rintro⟨o,g,e⟩;obtain⟨l,j,m,t,s⟩:=(C8 _ _ _).mp g;exists o,zC.mpr l;unfold cx;rw[zc ⟨‹j›,(C5 (by rw[Pw G];lia)).mpr ⟨m,t,‹s›⟩⟩];injection e with e1 f;replace f:r.groundPlace (B5 r o)=p:=f;unfold Rules.groundPlace at f;rw[EO G l G.ga]at f;subst e1 f;simp
  ·rintro⟨o,g,e⟩;rw[zC]at g;unfold cx at e;split at e
   ·rename_i q;obtain⟨m,t,s⟩:=(C5 (by rw[Pw G];lia)).mp q.2;exists o,(C8 _ _ _).mpr ⟨g,‹q.1›,m,t,‹s›⟩;have e:=zB.mp e;injection e with e1 f;show(2,r.groundPlace (B5 r o))=(k,p);unfold Rules.groundPlace;rw[EO G g G.ga];congr 1;·lia
    ·lia
   ·cases e
 have A:(k,p)∈(r.asWritten.filter r.misplaced).map (fun q=>(3,r.startPlace q))\/(k,p)∈(r.kings.drop 1).map (fun q=>(4,r.startPlace q))↔((p:Int),(k:Int))∈sF (Jv r) (Lh r) sp r.wide (Jv r).length:=by
  rw[MX G,F0 C,<-vK,tJ,zG,zG,zk,zk,Ic G];unfold sF;rw[yH];have v:∀o,o<r.wide*r.high->r.misplaced (B5 r o)=!Ye ((Jv r).getD o 0) ((Lh r).getD o 0):=fun o g=>by rw[dM G g,gc G g];exact jG _ _
  constructor
  ·rintro(⟨o,g,e⟩ |⟨o,g,e⟩);·obtain⟨l,j⟩:=zS.mp g;have w:=zC.mp l;refine⟨o,l,yB _ ?_⟩;replace j:r.misplaced (B5 r o)=true:=j;rw[v o w,xD]at j;unfold Wv;rw[zb (by rw[j];decide)];injection e with e1 f;replace f:r.startPlace (B5 r o)=p:=f;unfold Rules.startPlace at f;rw[EO G w G.sa]at f;subst e1 f;simp
   ·obtain⟨l,j,m,t,s⟩:=(C8 _ _ _).mp g;refine⟨o,zC.mpr l,yx _ ?_⟩;unfold Za;rw[zc ⟨‹j›,(C5 (by rw[Ic G];lia)).mpr ⟨m,t,‹s›⟩⟩];injection e with e1 f;replace f:r.startPlace (B5 r o)=p:=f;unfold Rules.startPlace at f;rw[EO G l G.sa]at f;subst e1 f;simp
  ·rintro⟨o,g,e⟩;have i:=zC.mp g;rcases zD.mp e with e|e
   ·left;unfold Wv at e;split at e;·cases e
    ·rename_i q;exists o,zS.mpr ⟨g,?_⟩;·show r.misplaced (B5 r o)=true;rw[v o i,xD,<-y4];exact q
     ·have e:=zB.mp e;injection e with e1 f;show(3,r.startPlace (B5 r o))=(k,p);unfold Rules.startPlace;rw[EO G i G.sa];congr 1;·lia
      ·lia
   ·right;unfold Za at e;split at e
    ·rename_i q;obtain⟨m,t,s⟩:=(C5 (by rw[Ic G];lia)).mp q.2;exists o,(C8 _ _ _).mpr ⟨i,‹q.1›,m,t,‹s›⟩;have e:=zB.mp e;injection e with e1 f;show(4,r.startPlace (B5 r o))=(k,p);unfold Rules.startPlace;rw[EO G i G.sa];congr 1;·lia
     ·lia
    ·cases e
 have u:∀(c d:Prop)[Decidable c][Decidable d](a b:Nat),(c↔d)->((k,p)∈(if c then[(a,b)]else[])↔((p:Int),(k:Int))∈(if d then[((b:Int),(a:Int))]else[])):=by
  intro c d Y Y a b h;by_cases hc:c;·rw[zc hc,zc (h.mp hc),zB,zB,tY,tY];lia
  ·rw[zb hc,zb (fun z=>hc (h.mpr z))];simp
 have y:=u _ _ 5 r.goalAt (cn G);have x:=u _ _ 6 n (bC G);rw[B,y,x,<-qo (a:=(k,p)∈_),A];simp only[qo];exact rQ
end
def two(p:Int×Int):List Int:=[p.1,p.2]
def hZ(a b:Int×Int):Prop:=a.1<b.1\/(a.1=b.1/\a.2<b.2)
theorem WM(a b:Int×Int):HT.lexLt (two a) (two b)=true↔hZ a b:=by
 unfold two hZ;rw[HT.lexLt_cons];by_cases h:a.1=b.1
 ·rw[zc h,HT.lexLt_cons];by_cases h2:a.2=b.2;·rw[zc h2,HT.lexLt_nil_nil];simp;lia
  ·rw[zb h2,zq];lia
 ·rw[zb h,zq];lia
theorem QW(xs:List (List Int)):∀k,bestAt xs k<=k
|0=>ze _
|k+1=>by
 rw[bestAt];split;·exact ze _
 ·exact Nat.le_succ_of_le (QW xs k)
theorem Rq(l:List (Int×Int)){j:Nat}(h:j<l.length):(l.map two).getD j []=two (l.getD j (0,0)):=by rw[z5,z5,z7,z4 h];rfl
theorem Ub(l:List (Int×Int)):∀k,k<l.length->∀j,j<=k->¬hZ (l.getD j (0,0)) (l.getD (bestAt (l.map two) k) (0,0))
|0,b,j,c=>by have:j=0:=∅;subst this;show¬hZ (l.getD 0 (0,0)) (l.getD 0 (0,0));unfold hZ;lia
|k+1,b,j,c=>by
 have a:=Ub l k ∅;have d:=QW (l.map two) k;rw[bestAt,Rq l b,Rq l (show bestAt (l.map two) k<l.length by lia)];by_cases hlt:HT.lexLt (two (l.getD (k+1) (0,0))) (two (l.getD (bestAt (l.map two) k) (0,0)))=true
 ·rw[zc hlt];rw[WM]at hlt;by_cases e:j=k+1;·subst e;unfold hZ;lia
  ·have:=a j ∅;unfold hZ at*;lia
 ·rw[zb hlt];rw[WM]at hlt;by_cases e:j=k+1;·subst e;exact hlt
  ·exact a j ∅
abbrev Zx(m:Option (Nat×Nat))(x:Nat×Nat):Option (Nat×Nat):=match m with|some y=>if sooner y x=true then some y else some x|none=>some x
def fP(a b:Nat×Nat):Prop:=a.2<b.2\/(a.2=b.2/\a.1<=b.1)
theorem Mm(a b:Nat×Nat):sooner a b=true↔fP a b:=by unfold sooner fP;simp
theorem Ka:∀(l:List (Nat×Nat))(y:Nat×Nat),∃f,l.foldl Zx (some y)=some f/\(f=y\/f∈l)/\fP f y/\∀x∈l,fP f x
|[],y=>⟨y,rfl,.inl rfl,by unfold fP;lia,fun x b=>by cases b⟩
|z::l,y=>by
 rw[ym];by_cases h:sooner y z=true
 ·obtain⟨f,e,a,d,c⟩:=Ka l y;refine⟨f,by show List.foldl Zx (if sooner y z=true then some y else some z) l=_;rw[zc h];exact e,?_,d,fun x b=>?_⟩
  ·rcases a with a|a;·exact .inl a
   ·exact .inr (zg _ a)
  ·rcases zw.mp b with rfl|b;·have:=(Mm _ _).mp h;unfold fP at*;lia
   ·exact c x b
 ·obtain⟨f,e,a,d,c⟩:=Ka l z;refine⟨f,by show List.foldl Zx (if sooner y z=true then some y else some z) l=_;rw[zb h];exact e,?_,?_,fun x b=>?_⟩
  ·rcases a with a|a;·exact .inr (by rw[a];exact zh)
   ·exact .inr (zg _ a)
  ·rw[Mm]at h;unfold fP at*;lia
  ·rcases zw.mp b with rfl|b;·exact d
   ·exact c x b
theorem Vw(l:List (Nat×Nat))(c:l≠[]):∃f,firstOf l=some f/\f∈l/\∀x∈l,fP f x:=by
 cases l with
 |nil=>exact absurd rfl c
 |cons z l=>
  obtain⟨f,g,a,e,d⟩:=Ka l z;refine⟨f,g,?_,fun x b=>?_⟩
  ·rcases a with a|a;·rw[a];exact zh
   ·exact zg _ a
  ·rcases zw.mp b with rfl|b;·exact e
   ·exact d x b
theorem e_(r:Rules)(d c b:Nat):∀x∈W7 r d c b,∃k p:Nat,x=((p:Int),(k:Int)):=by
 intro x a;unfold W7 at a;rcases zD.mp a with a|a
 ·rcases zD.mp a with a|a
  ·rcases zD.mp a with a|a
   ·unfold gF at a;obtain⟨o,Y,a⟩:=yH.mp a;unfold cx at a;split at a;·exact⟨2,_,zB.mp a⟩
    ·cases a
   ·unfold sF at a;obtain⟨o,Y,a⟩:=yH.mp a;rcases zD.mp a with a|a
    ·unfold Wv at a;split at a;·cases a
     ·exact⟨3,_,zB.mp a⟩
    ·unfold Za at a;split at a;·exact⟨4,_,zB.mp a⟩
     ·cases a
  ·split at a;·exact⟨5,_,zB.mp a⟩
   ·cases a
 ·split at a;·exact⟨6,_,zB.mp a⟩
  ·cases a
theorem cA{r:Rules}{d b:Nat}(G:CJ r d b)(a:Nat):(W7 r d b a=[]->firstOf (wrongs a r)=none)/\(W7 r d b a≠[]->∃k p:Nat,firstOf (wrongs a r)=some (k,p)/\(W7 r d b a).getD (bestAt ((W7 r d b a).map two) ((W7 r d b a).length-1)) (0,0)=((p:Int),(k:Int))):=by
 have g:=Um G a;have o:=e_ r d b a;generalize W7 r d b a=l at g o|-;generalize wrongs a r=w at g|-;constructor
 ·intro e;have:w=[]:=by cases w with|nil=>rfl|cons z t=>have:=(g z.1 z.2).mp zh;rw[e]at this;cases this
  rw[this];rfl
 ·intro m;have q:0<l.length:=xF.mpr m;have v:w≠[]:=by intro e;obtain⟨x,t,rfl⟩:=vj m;obtain⟨k,p,rfl⟩:=o x zh;have:=(g k p).mpr zh;rw[e]at this;cases this
  obtain⟨f,D,C,B⟩:=Vw w v;exists f.1,f.2,D;have A:=QW (l.map two) (l.length-1);have c:=Ub l (l.length-1) ∅;generalize bestAt (l.map two) (l.length-1)=j at A c|-;have s:j<l.length:=∅;have n:l.getD j (0,0)∈l:=by rw[z5,z4 s];exact wo s
  obtain⟨k,p,e⟩:=o _ n;have u:=B (k,p) ((g k p).mpr (e▸n));obtain⟨i,y,E⟩:=w_.mp ((g f.1 f.2).mp C);have h:=c i ∅;rw[z5,z4 y]at h;simp only[vY]at h;rw[E]at h;rw[e]at h|-;unfold hZ at h;unfold fP at u;simp only[tY];simp only at u h;lia
inductive VX(C:Addr):_|mk(H0:Hp)(e:Addr)(x:Str):vs=[.ref e,.str x]->(∃dx,H e=some (.ins C dx []))->Ap H0 H->H0 e=none->(∀H',Cw C H' e x 0->Ap H0 H'->Q .Bz H')->VX C vs H Q E
theorem oy:Ah ["self","text"] ["self","text"] (Ad ZO):={}
theorem Po(a:AY):nO 1 aR ["self","text"] (VX aR):=by refine a.bV.has fun F=>F.ok oy fun H Q E i h=>?_;obtain⟨j,e,x,rfl,⟨d,f⟩,b,c,k⟩:=h;exists%[B1 (pv 0) (pv 1) |B1 (pv 0) Ae];exists _,rfl,_,rfl,e,aR,d,_,rfl,f,a.rt.cl,a.rt.nT,(by show 0<1000;decide),_,rfl,e,aR,d,_,rfl,Aa,a.rt.cl,a.rt.nP,(by show 1<1000;decide);rw[DH];have g:Bx "place" (V.int 0) (Bx "text" (V.str x) [])=rf x 0:=#v[];rw[g];exact k _ ⟨d,Aa⟩ (Bu b c)
theorem P2{i:Str}{n kind c:Int}(h:fX C i n){F m:Hp}{E:XK}{g p:Addr}{j:Option Addr}(k:Ref C [n,kind,c] F E)(s:Ap F m)(A:m g=none):([V.int kind,V.int c]:List V).length<=sizeLine/\∀a,Av m g (YO true g p j) a=none->Fm K n [.ref a,.int kind,.int c] (Av (Av m g (YO true g p j)) a (XO a C none)) (fun v x=>v= .Bz/\∃d p j,x a=some (XO a C d)/\x g=some (YO true g p j)/\g≠a/\E (.ref C) d (Li x a)) E0:=by
 obtain⟨f,fd,M,T,P,b,G⟩:=h;refine⟨K0,fun a q=>?_⟩;have r:g≠a:=fun z=>by rw[<-z,Aa]at q;cases q
 have I:m a=none:=by rw[Ac (zN r)]at q;exact q
 refine⟨a,kind,c,rfl,C,f,M,T,Aa,fun H' D l N L J O u H y B=>⟨rfl,some D,p,j,N,B g _ (by rw[Ac r,Aa]) r,r,?_⟩⟩;refine k (Li H' a) D l (by rw[BX H];exact L) (by rw[BX y];exact J) (s.free (by
  rw[Ac y]at u;by_cases z:l=g;·rw[z];exact A
  ·rw[Ac z]at u;exact u)) fun b o e=>?_;have w:=s _ _ e;have t:b≠a:=Ab w I;rw[BX t];exact B b o (by rw[Ac t,Ac (Ab w A)];exact w) t
inductive Kx(C CR:Addr):_|mk(x:Str)(b:Bytes):vs=[.str x]->Tx x b->(match judge b with| .ok r=>∀H' h,Ap H H'->H h=none->Bf C H' h r->Q (.ref h) H'| .error f=>Ref CR [-6,(f.1:Nat),(f.2:Nat)] H E)->Kx C CR vs H Q E
def vH(CA:Addr)(b:Bytes)(H:Hp):XK:=fun v d c=>v= .ref CA/\∃p a,grammar b= .error p/\d=some a/\c a=some (.xd [("place",.int (p:Nat))])/\Ap H c
theorem B7.same{l:Addr}{a:List (Int×Int)}(h:B7 H l a)(s:Ap H H'):B7 H' l a:=by obtain⟨d,c,b⟩:=h;exact⟨d,s _ _ c,Am (fun Y Y=>s _ _) b⟩
theorem UL{c b:Addr}{e d:List (Int×Int)}{Q:VK}(o:B7 H c e)(n:B7 H b d)(q:e.length+d.length<=1000)(k:∀H' l,Ap H H'->H l=none->B7 H' l (e++d)->Q (.ref l) H'):jx (.ref c) (.ref b) H Q:=by
 obtain⟨m,i,g⟩:=o;obtain⟨j,h,f⟩:=n;have s:=zE g;have r:=zE f;refine⟨c,b,_,_,rfl,rfl,i,h,?_,fun p a=>k _ p (Af a) a ⟨m++j,by rw[Aa,zu],?_⟩⟩;·rw[z3,z3];have:(1000:Nat)<=sizeLine:=⋯;lia
 ·exact BU (Am (fun Y Y z=>Af a _ _ z) g) (Am (fun Y Y z=>Af a _ _ z) f)
theorem QF{a:Type}(f:Nat->List a)(m:Nat)(h:∀o,(f o).length<=m):∀n,((List.range n).flatMap f).length<=m*n|0=>by simp|n+1=>by rw[yg,yd,yb,zd,xR];have:=QF f m h n;have:=h n;lia
theorem mQ(y:List Nat)(a w n:Nat):(gF y a w n).length<=n:=by have:=QF (cx y a w) 1 (fun o=>by unfold cx;split<;>simp) n;unfold gF;lia
theorem mj(y g:List Nat)(a w n:Nat):(sF y g a w n).length<=2*n:=by
 refine QF (fun o=>Wv y g a w o++Za y a w o) 2 (fun o=>?_) n;have c:(Wv y g a w o).length<=1:=by unfold Wv;split<;>simp
 have b:(Za y a w o).length<=1:=by unfold Za;split<;>simp
 rw[zd];lia
theorem SU:bootBuiltins "min"=some (.builtin "min"):=∎
abbrev r6:List Str:=["text","reader","said","e","faults","first"]
theorem XB:Ah r6 ["text"] (Ad Mx):={}
theorem NT(f:AY):pk 7 "read_rules" ["text"] (Kx aH aS):=by
 refine f.QL.has fun F=>F.Ju XB fun H Q E M h hx=>?_;obtain⟨x,b,rfl,V,k⟩:=h;obtain⟨fF,b9,MF,TF,mF,bF,a3⟩:=id (Cr f);have n:AV 3 _:=M.mono ⋯;have v:AV 2 _:=M.mono ⋯;have a7:AV 1 _:=M.mono ⋯;have a6:AV 4 _:=M.mono ⋯;exists%[An (i:=1) XB.nd (IJ (Po f) v rfl f.Tp Ar (#v[pv 0])),UO (c:=true) (E:=vH aA b H) (E':=E) (i:=3) (ts:=fun a=>PU a aS (Fm K (-6)) E (Bc (tC (.int 1)) (Bc (VT K (Bi 3) "place") B_))) ⟨rfl,rfl⟩ XB.nd rfl rfl rfl f.fJ (mY f) (fun pn xe T=>Ag (An (i:=2) XB.nd (Ay (Tc f) M rfl T.passes (#v[pv 1])))) hx (fun a xe T=>by exact Ag (OQ MF a3 (n.h.mark _) rfl mF bF rfl T (#v[Ae,Qm (pv 3) rfl]))),An (i:=4) XB.nd (A9 Ed (A9 Ed (A9 Ed (Ay (Tb f) v rfl Ar (#v[pv 2])) (Ay (Vo f) v rfl Ar (#v[pv 2]))) (Ay (Yv f) n rfl Ar (#v[pv 2]))) (Ay (Yt f) a7 rfl Ar (#v[pv 2,AN DP f.D6 y8 (#v[pv 0])]))),AK (IF (pv 4) (fun Y=>rfl)) (%[An (i:=5) XB.nd (AN (Ob rfl (rN (Gq n.in1))) f.m4 SU (#v[pv 4])) |Sd (Cr f) n.h rfl rfl hx.weak (#v[Az Be (pv 5) Ae,Az Be (pv 5) Ae])]) Au|Aj (IJ (QC f) a6 rfl f.kb Ar (#v[pv 2]))];refine⟨_,rfl,fun e dx P a4 b6=>?_⟩;have s0:Ap H (Av (Av H dx (.own e)) e (.ins aR dx [])):=fun A o z=>by rw[Ac (Ab z P),Ac (Ab z a4)];exact z
 refine⟨H,e,x,rfl,⟨dx,Aa⟩,s0,P,fun H1 a2 s1=>⟨rfl,?_⟩⟩;refine Ax ?_;cbv;refine⟨⟨_,rfl,e,x,b,rfl,a2,V,?_⟩,?_⟩
 ·cases R:grammar b with
  |error p=>intro H' y q bt;exact⟨rfl,p,y,R,rfl,q,fun A o z=>bt A o (s1 A o z) (Ab z P)⟩
  |ok r=>
   intro H2 J j C B bt n1 b5 u g m;have s2:Ap H H2:=fun A o z=>bt A o (s1 A o z) (Ab z P);unfold judge at k;rw[R]at k;dsimp only at k;have w5:=m.Z.w5;have s:=m.Z.KR;have b8:r.wide*r.high<=169:=uw m.Z.KR m.Z.Vt;have gl:=Pw m;have yl:=Ic m;refine Ax ?_;cbv;refine⟨_,rfl,J,j,Lh r,C,r.wide,rfl,u,g.ok.ground,g.j_,g.ok.wide,∅,s,∅,fun H3 l1 s3 n3 F1=>?_⟩;refine⟨_,rfl,J,j,Jv r,Lh r,B,r.wide,rfl,s3 _ _ u,g.start,g.ok.ground,g.ja,g.ok.wide,∅,s,∅,by rw[gl,yl],fun H4 l2 s4 n4 F2=>?_⟩;have b1:=mQ (Lh r) C r.wide (Lh r).length;have b2:=mj (Jv r) (Lh r) B r.wide (Jv r).length;refine UL (F1.same s4) F2 ∅ fun H5 l3 s5 n5 F3=>?_;have I:=s5 _ _ (s4 _ _ (s3 _ _ u));refine⟨_,rfl,J,j,Jv r,Lh r,r.wide,r.high,r.goal,r.goalAt,rfl,I,g.start,g.ok.ground,g.ok.wide,g.ok.high,g.ok.goal,g.mP,∅,s,fun H6 l4 s6 n6 F4=>?_⟩;have b3:(if Ct r.goal (Jv r) (Lh r) r.wide r.high=true then[((r.goalAt:Int),(5:Int))]else[]).length<=1:=by split<;>simp
   have b4:(if Ew r.passed r.seat (Jv r) (Lh r)=true then[((b.length:Int),(6:Int))]else[]).length<=1:=by split<;>simp
   refine UL (F3.same s6) F4 (by rw[zd];lia) fun H7 l5 s7 n7 F5=>?_;have G:=s7 _ _ (s6 _ _ I);refine⟨_,rfl,_,rfl,x,rfl,V.line,J,j,Jv r,Lh r,r.passed,r.seat,b.length,by rw[V.len];rfl,G,g.start,g.ok.ground,g.ok.passed,g.ok.seat,fun H8 l6 Z n8 F6=>?_⟩;refine UL (F5.same Z) F6 (by rw[zd,zd];lia) fun N l7 s9 n9 F7=>?_;have X:=s9 _ _ (Z _ _ G);have W:Ap H N:=(((((s2.trans s3).trans s4).trans s5).trans s6).trans s7|>.trans Z).trans s9;replace F7:B7 N l7 (W7 r C B b.length):=F7;obtain⟨U,h7,O⟩:=F7;have D:=zE O;refine Ax ?_;cbv;obtain⟨q1,q2⟩:=cA m b.length;refine DG ⟨_,rfl,_,.inl ⟨_,AI.of h7,rfl⟩,?_⟩;by_cases hE:W7 r C B b.length=[]
   ·rw[hE]at D;have:U=[]:=wH.mp D;subst this;refine B8 rfl ?_;rw[q1 hE]at k;dsimp only at k;refine⟨_,rfl,fun S dh nh a5 b7=>?_⟩;have sh:Ap N (Av (Av N dh (.own S)) S (.ins aH dh [])):=fun A o z=>by rw[Ac (Ab z nh),Ac (Ab z a5)];exact z
    exact⟨N,S,J,r,j,rfl,⟨dh,Aa⟩,sh,nh,X,g.ok,m.Z,m.N,m.gl,m.gw,fun b0 hA a1=>⟨rfl,k b0 S (W.trans a1) (W.free nh) hA⟩⟩
   ·obtain⟨kd,pl,e1,e2⟩:=q2 hE;have w:U≠[]:=fun z=>hE (by rw[z]at D;exact wH.mp D.symm);refine BI (by cases U with|nil=>exact absurd rfl w|cons _ _=>rfl) ?_;rw[e1]at k;dsimp only at k;refine⟨_,rfl,l7,U,(W7 r C B b.length).map two,rfl,AI.of h7,?_,w,fun t ht=>?_⟩;·clear D e2 q1 q2 e1 k hE h7 w;generalize W7 r C B b.length=l at O;induction O with|nil=>exact .nil|cons h1 h2 ih=>exact .cons (Em.of h1) ih
    ·refine Ax ?_;cbv;obtain⟨pp,a8,tw⟩:=AA O ht;have a9:pp=((pl:Int),(kd:Int)):=by rw[<-e2,z5,<-D,a8];rfl
     subst a9;refine⟨_,rfl,t,_,_,_,rfl,rfl,Em.of tw,rfl,_,rfl,t,_,_,_,rfl,rfl,Em.of tw,rfl,Tu (Cr f) (k.same W)⟩
 ·rintro a0 C1 d H2 ⟨ec,p,y,R,rfl,q,s2⟩ L;cases ec;exists f.lH,_,rfl,true,a0,aA,y,[("place",.int (p:Nat))],_,rfl,Aa,f.pz,?_,xW;·rw[Ac (Ab q L)];exact q
  ·unfold judge at k;rw[R]at k;exact P2 (Cr f) k s2 L
def Fc(r:Rules)(o:Nat):Nat:=13*(r.high-1-o/r.wide)+o%r.wide
def MM(r:Rules)(b:List Nat)(o:Nat):Bool:=!decide (b.getD (Fc r o) 0=46)&&!WJ r (b.getD (Fc r o) 0) (Fc r o)
inductive Ky(C CL:Addr):_|mk(a pl:Addr)(r:Rules)(b places:List Nat):vs=[.ref a,.str (Ak b),.ref pl]->Bf C H a r->b.length=169->H pl=some (.lst (nV places))->places.length=r.wide*r.high->(match(List.range (r.wide*r.high)).find? (MM r b)with|none=>∀H',Ap H H'->Q .Bz H'|some o=>Ref CL [-5,2,(places.getD o 0:Nat)] H E)->Ky C CL vs H Q E
theorem Vx{p:Nat->Bool}(d:i<n)(a:p i=true)(b:∀j,j<i->p j=false):(List.range n).find? p=some i:=by rw[vN];exact⟨a,‹d›,fun j c=>by rw[b j c];rfl⟩
abbrev t5:List Str:=["hall","cells","places","order","place","cell"]
theorem eG:Ah t5 ["hall","cells","places"] (Ad My):={}
theorem NU(m:AY):mK 4 "refuse_misplaced" ["hall","cells","places"] (Ky aH aL):=by
 refine m.HX.has fun F=>F.Ju eG fun H Q E W h C=>?_;obtain⟨a,V,r,b,d,rfl,S,hb,u,p,k⟩:=h;obtain⟨U,N,bs,P,a0,a2,a1⟩:=S.ex;have Z:=S.Z;have w5:=Z.w5;have D:=Z.KR;have a3:=Z.Vt;have t:AV 1 _:=W.mono ⋯;exists Ag (BB Br rfl (Lz (by rfl) m.BF (#v[pv 2])) (Di rfl (AR (Aw (i:=3) eG.nd) (AR (Aw (i:=4) eG.nd) Cp))) (%[An (i:=5) eG.nd (Ay (Ni m) t rfl Ar (#v[pv 3,Al (pv 0),Al (pv 0)])) |AK (Ck (Ao Hr (Az Eh (pv 1) (pv 5)) Ai) (BK (FV (BS (AG (Fx m) (pv 0) m.hc.cl t Ar (#v[Az Eh (pv 1) (pv 5),pv 5])))))).pt (Ag (Sd (C9 m) W.h rfl rfl C (#v[Ae,pv 4]))) Au]));refine⟨_,rfl,V,_,rfl,AI.of u,J_ (xs:=nV d) (fun i B H'=>E3 fun J I G=>A3 (B=[some (.ref a),some (.str (Ak b)),some (.ref V),J,I,G]) (Ap H H') (∀j,j<i->MM r b j=false)) ⟨none,none,none,rfl,AQ _,fun j X=>absurd X (xc _)⟩ (fun i B H' Y ⟨_,_,_,_,z,_⟩=>AI.of (z _ _ u)) ?_ ?_⟩
 ·rintro i v B H' D' O ⟨J,I,G,rfl,L,o⟩ R;obtain⟨s,w,rfl⟩:∃s,d[i]?=some s/\v= .int (s:Nat):=by unfold nV at O;rw[z7,zy]at O;obtain⟨c,e,rfl⟩:=O;exact⟨c,e,rfl⟩
  have y:i<r.wide*r.high:=by rw[<-p];exact(z8.mp w).1
  have hd:i/r.wide<r.high:=(yw ∅).mpr (by rw[yh];exact y);have hm:i%r.wide<r.wide:=wV _ ∅;have l:Fc r i<169:=by unfold Fc;generalize i/r.wide=q at hd|-;lia
  have K:Ap H' (Av H' D' (.tup [.int (i:Nat),.int (s:Nat)])):=Af R;have f:=L.trans K;have g:(Ak b).length<=sizeLine:=by rw[B3,hb];exact BN
  refine⟨D',_,rfl,.of Aa,rfl,_,_,rfl,_,_,rfl,rfl,_,rfl,_,rfl,a,aH,U,_,_,rfl,f _ _ P,m.hc.cl,m.hc.O_,IX r N,_,rfl,a,aH,U,_,_,rfl,f _ _ P,m.hc.cl,m.hc.Pa,IY r N,i,r.wide,r.high,rfl,∅,D,hd,Ax ?_⟩;cbv;refine DG ?_;have A:YL (Ak b).cps.toList ((Fc r i:Nat):Int)=some (b.getD (Fc r i) 0):=Ik (by rw[hb];exact l);refine DI (!decide (b.getD (Fc r i) 0=46)) (!WJ r (b.getD (Fc r i) 0) (Fc r i)) (fun Q' M=>⟨_,rfl,_,rfl,Ak b,_,_,rfl,rfl,g,A,rfl,_,rfl,HK M (zT Bool.not (Dh (n:=46) rfl))⟩) (fun Y Q' M=>⟨_,rfl,a,U,_,rfl,f _ _ P,JW r N,_,rfl,_,rfl,Ak b,_,_,rfl,rfl,g,A,_,rfl,a,r,_,Fc r i,rfl,S.same f,l,_,rfl,M⟩) ?_;by_cases hbad:MM r b i=true
  ·refine BI hbad ?_;rw[Vx y hbad o]at k;have T:d.getD i 0=s:=by rw[z5,w];rfl
   dsimp only at k;rw[T]at k;exact⟨_,rfl,Tu (C9 m) (k.same f)⟩
  ·rw[y4]at hbad;refine B8 hbad ⟨_,_,_,rfl,f,fun j X=>?_⟩;by_cases e:j=i;·rw[e];exact hbad
   ·exact o j ∅
 ·rintro B H' ⟨J,I,G,rfl,L,o⟩;have:(List.range (r.wide*r.high)).find? (MM r b)=none:=by rw[xS];intro x C;rw[zC]at C;rw[o x (by unfold nV;rw[z3,p];exact C)];decide
  rw[this]at k;exact k H' L
inductive Oy:_|mk(wl:Addr)(ys:List Nat)(w h o:Nat):vs=[.ref wl,.int w,.int h,.str ⟨#[o]⟩]->H wl=some (.lst (ys.map Z9))->ys.length=w*h->1<=w->w<=13->1<=h->h<=13->(∀H' z,Ap H H'->z.cps.toList=A1 ys w h o (w*h)->Q (.str z) H')->Oy vs H Q E
theorem SY(B:AY):FJ 2 "spread" ["written","wide","high","outside"] Oy:=by
 refine B.TB.has fun F=>F.ok D0 fun H Q E X h=>?_;obtain⟨K,f,W,T,o,rfl,m,L,U,n,hh,Z,k⟩:=h;exists%[An (i:=4) D0.nd (A9 Qo (AE (#v[pv 3])) (AB (v:= .int 169) rfl (C2 B.QU) ⟨_,rfl⟩)),BB y0 rfl (Lz (by rfl) B.BF (#v[pv 0])) (Di rfl (AR (Aw (i:=5) D0.nd) (AR (Aw (i:=6) D0.nd) Cp))) (Ag (HL (pv 6) (HN (pv 4) (Ay (Ni B) X rfl Ar (#v[pv 5,pv 1,pv 2])) set_list))) |Aj (B4 yc xw xt GN Ai (#v[pv 4]))];have nL:(169:Nat)<=sizeLine:=⋯;refine⟨_,rfl,Js,fun I p=>⟨I,_,_,rfl,rfl,Aa,⋯,⋯,(by show 1*169<=sizeLine;decide),fun l M=>?_⟩⟩;have j:Ap H (Av (Av H I (.lst [.str ⟨#[o]⟩])) l (.lst ((A1 f W T o 0).map fun c=>V.str ⟨#[c]⟩))):=fun A x e=>by
  have y:(Av H I (.lst [.str ⟨#[o]⟩])) A=some x:=by rw[Ac (Ab e p)];exact e
  rw[Ac (Ab y M)];exact y
 have eL:(List.replicate (169:Int).toNat [V.str ⟨#[o]⟩]).flatten=(A1 f W T o 0).map fun c=>V.str ⟨#[c]⟩:=by rw[Ks,vf,wM];rfl
 rw[eL];have R:H l=none:=Ap.free (Af p) M;refine⟨_,rfl,K,_,rfl,AI.of (j _ _ m),J_ (xs:=f.map Z9) (fun i s H'=>E2 fun G C=>A3 (s=[some (.ref K),some (.int W),some (.int T),some (.str ⟨#[o]⟩),some (.ref l),G,C]) (Ap H H') (H' l=some (.lst ((A1 f W T o i).map fun c=>V.str ⟨#[c]⟩)))) ⟨none,none,rfl,j,Aa⟩ (fun i s H' Y ⟨_,_,_,z,_⟩=>AI.of (z _ _ m)) ?_ ?_⟩
 ·rintro i v s H' D N ⟨G,C,rfl,w,a⟩ P;obtain⟨c,q,rfl⟩:∃c,f[i]?=some c/\v= .str ⟨#[c]⟩:=by rw[z7,zy]at N;obtain⟨c,e,rfl⟩:=N;exact⟨c,e,rfl⟩
  have r:i<W*T:=by rw[<-L];exact(z8.mp q).1
  have O:i/W<T:=(yw ∅).mpr (by rw[yh];exact r);have J:l≠D:=Ab a P;exists D,_,rfl,.of Aa,rfl,_,_,rfl,_,_,rfl,rfl,_,rfl,_,rfl,_,rfl,_,rfl,_,rfl,i,W,T,rfl,∅,n,O,l,_,_,13*(T-1-i/W)+i%W,rfl,rfl,by rw[Ac J];exact a,?_,_,_,rfl,?_;·have hm:i%W<W:=wV _ ∅;rw[z3,show(A1 f W T o i).length=169 by simp[A1]];exact Ex (by generalize i/W=d at O|-;lia)
  ·intro A x e;rw[Ac (Ab e R),Ac (Ab (w A x e) P)];exact w A x e
  ·rw[Aa,<-Kt U n r q,wK]
 ·rintro s H' ⟨G,C,rfl,w,a⟩;rw[z3,L]at a;have g:(A1 f W T o (W*T)).length=169:=by simp[A1]
  refine⟨rfl,_,rfl,_,l,(A1 f W T o (W*T)).map fun c=>(⟨#[c]⟩:Str),rfl,rfl,.inl (.of (by rw[a,zG];rfl)),?_,k H' _ w ?_⟩
  ·rw[zG,z3,g];have y:∀t:List Nat,(t.map (Str.length∘fun u=>(⟨#[u]⟩:Str))).sum=t.length:=by intro t;induction t with|nil=>rfl|cons u b S=>rw[zH,vI,S,zm];show 1+_=_;lia
   rw[y,g];show 169+169*0<=_;lia
  ·refine(zT TL.tl (TL.join_eq _ _)).trans ?_;rw[TL.Es,zG];exact GU _
def Q_(H:Hp)(t:Addr)(z:Nat×Nat):Prop:=H t=some (.tup [.str ⟨#[z.1]⟩,.int (z.2:Nat)])
inductive Z0(C CA:Addr):_|mk(a:Addr)(x:Str)(b:Bytes)(p left:Nat):vs=[.ref a,.int (left:Nat)]->Cw C H a x p->Tx x b->p<=b.length->1<=left->left<=13->(HM.Res (CP left (BJ b p) (AH b p) ⟨b.drop p,p⟩) (fun z=>∀H' l ts,Cw C H' a x z.2.at_->DA a H H'->H l=none->l≠a->H' l=some (.lst (ts.map V.ref))->Paired (Q_ H') ts z.1->Q (.ref l) H') fun e=>FN a CA e H E)->Z0 C CA vs H Q E
theorem N1{b:Bytes}(t:Tx x b)(a:p<=b.length):(DO x none (some (p:Int))).cps.toList=(b.map kc).take p:=by unfold DO;have c:=t.len;rw[HT.Iy,HT.Fn,c,xf a,xK,uR,t.cs]
theorem Ud{b:Bytes}(t:Tx x b)(c:p<=b.length):decide (75∈(DO x none (some (p:Int))).cps.toList)=AH b p:=by
 unfold AH;rw[N1 t c,<-vJ,y3,zk];constructor;·rintro⟨u,a,e⟩;have:=(Hu (∎:75∈known)).mp e;have:u=75:=xT.mp this;rw[<-this];exact a
 ·intro h;exact⟨75,h,∎⟩
theorem VF{b:Bytes}(t:Tx x b)(d:p<=b.length):Txt.isdigit (DO (DO x none (some (p:Int))) (some (-1)) none)=BJ b p:=by
 have e:=N1 t d;have a:(DO x none (some (p:Int))).length=p:=by show(DO x none (some (p:Int))).cps.size=p;rw[<-xi,e,zO,z3,xf d]
 generalize DO x none (some (p:Int))=z at e a;have f:DO z (some (-1)) none=⟨(((b.map kc).take p).drop (p-1)).toArray⟩:=by
  unfold DO;rw[e,a];have h:HT.CQ p 0 (some (-1))=p-1:=by show(if(-1:Int)<0 then((-1:Int)+(p:Int)).toNat else min (-1:Int).toNat p)=_;rw[zc ⋯];lia
  rw[h,HT.Iy];congr 2;rw[List.take_of_length_le];rw[yI,zO];lia
 rw[f];cases p with
 |zero=>rfl
 |succ q=>
  have c:q<b.length:=d;have g:((b.map kc).take (q+1)).drop (q+1-1)=[kc b[q]]:=by rw[Nat.add_sub_cancel,List.drop_take,Nat.add_sub_cancel_left];rw[yf (by rw[z3];exact c),xE,wI,xp]
  rw[g];have:=HI t q;rw[Dr t (z4 c)]at this;rw[HM.DX (z4 c)];rw[z4 c]at this;exact this
theorem X2{a:Nat}{b:Bytes}(h:b[p]?=none):CP a (BJ b p) (AH b p) ⟨b.drop p,p⟩= .error p:=by unfold CP;rw[CZ,h]
theorem U1{a:Nat}{b:Bytes}{u:UInt8}(h:b[p]?=some u)(c:u=104\/u=109\/(u=75/\AH b p=false)):CP a (BJ b p) (AH b p) ⟨b.drop p,p⟩= .ok ([(u.toNat,p)],⟨b.drop (p+1),p+1⟩):=by
 unfold CP;rw[CZ,Ef,h];cbv;rcases c with e|e|e;·rw[zc e];subst e;rfl
 ·rw[zb (by rw[e];decide),zc e];subst e;rfl
 ·rw[zb (by rw[e.1];decide),zb (by rw[e.1];decide),zc e,e.1];rfl
theorem Z7{a:Nat}{b:Bytes}{u:UInt8}(h:b[p]?=some u)(c:¬(u=104\/u=109\/(u=75/\AH b p=false)))(e:isDigit u=false\/BJ b p=true):CP a (BJ b p) (AH b p) ⟨b.drop p,p⟩= .error p:=by
 unfold CP;rw[CZ,h];cbv;rw[zb (fun z=>c (.inl z)),zb (fun z=>c (.inr (.inl z))),zb (fun z=>c (.inr (.inr z)))];by_cases hw:BJ b p=true;·rw[zc hw]
 ·rw[zb hw];have d:isDigit u=false:=e.resolve_right hw;unfold runIn;rw[CZ,h];cbv;rw[zb (fun z=>by rw[d]at z;exact absurd z.1 ⋯)]
theorem Z6{a:Nat}{b:Bytes}{u:UInt8}(i:a<=13)(h:b[p]?=some u)(d:isDigit u=true)(f:BJ b p=false):CP a (BJ b p) (AH b p) ⟨b.drop p,p⟩=(number 1 a ⟨b.drop p,p⟩).map fun n=>(List.replicate n.1 (46,p),n.2):=by
 have c:∀v:UInt8,isDigit v=false->¬u=v:=fun v g e=>by rw[e,g]at d;cases d
 unfold CP;rw[CZ,h,HM.UE i];cbv;rw[zb (c 104 ⋯),zb (c 109 ⋯),zb (fun z=>c 75 ⋯ z.1),zb (by rw[f];decide)];cases runIn a ⟨b.drop p,p⟩<;>rfl
theorem lJ{b:Bytes}(t:Tx x b)(a:List Nat)(f:∀c∈a,c∈known):sg x p∈(a.map fun c=>(⟨#[c]⟩:Str))↔∃u,b[p]?=some u/\u.toNat∈a:=by
 cases d:b[p]? with
 |none=>
  rw[Iq t d];constructor;·intro z;obtain⟨c,Y,z⟩:=zk.mp z;have:=zT (fun s:Str=>s.cps.size) z;cases this
  ·rintro⟨u,z,Y⟩;cases z
 |some u=>
  rw[Dr t d];constructor
  ·intro z;obtain⟨c,g,z⟩:=zk.mp z;have h:c=kc u:=by have:=zT (fun s:Str=>s.cps.toList) z;simpa using this
   exists u,rfl;rw[(Hu (f c g)).mp h.symm];exact g
  ·rintro⟨i,z,e⟩;cases z;exact zk.mpr ⟨u.toNat,e,by rw[(Hu (f _ e)).mpr rfl]⟩
abbrev rz:List Str:=["reader","left","place","before","pieces"]
theorem eE:Ah rz ["reader","left"] (Ad gW):={}
theorem cf(m:AY):mK 4 "read_some" ["reader","left"] (Z0 aR aA):=by
 refine m.TC.has fun F=>F.Ju eE fun H Q E hr h hx=>?_;obtain⟨a,x,b,p,j,rfl,⟨I,v⟩,r,hp,b1,a8,k⟩:=h;have a7:AV 1 _:=hr.mono ⋯;exists%[An (i:=2) eE.nd (Al (pv 0)),An (i:=3) eE.nd (D3 HH (Al (pv 0)) IG (CW (pv 2))),AK (Ck (BS (Sh vF vD HR (AS (Y1 m) (pv 0) m.rt.cl a7 Ar))) (BK (FV (BS (Sh vF vD HR (D3 HH (pv 3) (CW (Hq EC Ae)) IG)))))).pt (Ag (Aj (A9 Qo (AE (#v[B2 (#v[Ai,pv 2])])) (AG (Ez m) (pv 0) m.rt.cl hr hx.passes (#v[Ae,pv 1]))))) Au,An (i:=4) eE.nd (D4 (Ao Fu Ai (pv 3) #v[]) (B2 (#v[Ai,Ai])) (B2 (#v[Ai,Ai,Ai]))) |Aj (AE (#v[B2 (#v[AG (KC m) (pv 0) m.rt.cl hr hx.passes (#v[pv 4]),pv 2])]))];refine⟨_,rfl,a,aR,I,_,_,rfl,v,m.rt.cl,m.rt.nP,Bp x p,Ax ?_⟩;cbv;refine⟨_,rfl,a,aR,I,_,_,rfl,v,m.rt.cl,m.rt.nT,IC x p,_,rfl,_,rfl,x,rfl,r.line,Ax ?_⟩;cbv;refine DG ?_;have zl:(DO x none (some (p:Int))).length<=sizeLine:=z_ (KO _ _ _) r.line;refine DI (match b[p]? with|some u=>isDigit u|none=>false) (!BJ b p) (fun Q' q'=>⟨_,rfl,a,I,_,rfl,v,C4 _ _,a,x,p,rfl,⟨I,v⟩,r.line,⟨_,rfl⟩,_,rfl,rfl,we,_,rfl,HK q' (HI r p)⟩) (fun Y Q' q'=>⟨_,rfl,1,rfl,_,rfl,_,rfl,zl,⟨_,rfl⟩,_,rfl,rfl,we,_,rfl,HK q' (zT Bool.not (VF r hp))⟩) ?_;have done:∀{cs:List Nat}{g:Addr}{H1:Hp}{N:L2.St},(∀c∈cs,c∈known)->H1 g=some (.tup (cs.map fun c=>V.str ⟨#[c]⟩))->Ap H H1->H g=none->(∀u,b[p]?=some u->(u.toNat∈cs↔(u=104\/u=109\/(u=75/\AH b p=false))))->(∀u,b[p]?=some u->isDigit u=false\/BJ b p=true)->N[0]?=some (some (.ref a))->N[2]?=some (some (.int (p:Nat)))->N[4]?=some (some (.ref g))->PR (iT (Bc (Xz (Bc (DF aR "take_one_of" (DQ K aR aA) [] E (Bi 0) (Bc (Bi 4) B_)) (Bc (Bi 2) B_))) B_)) {nx:=fun Y H'=>Q .Bz H',rt:=Q} N H1:=by
  intro cs g H1 N G M C ng U A e0 e2 e4;exists _,e0,a,I,_,rfl,C _ _ v,C4 _ _,_,e4,a,g,x,p,cs.map fun c=>(⟨#[c]⟩:Str),rfl,⟨I,C _ _ v⟩,r.line,.of (by rw[zG];exact M);have T:=lJ r (p:=p) cs G;have no:b[p]?=none->FN a aA p H E:=fun f=>by rw[X2 f]at k;exact k
  by_cases hm:sg x p∈(cs.map fun c=>(⟨#[c]⟩:Str))
  ·rw[zc hm];obtain⟨u,f,hc⟩:=T.mp hm;rw[U1 f ((U u f).mp hc)]at k;intro H2 a2 Z;refine⟨_,e2,K0,fun t ht=>⟨Js,fun l w=>?_⟩⟩;obtain⟨b0,X⟩:=a2;have a6:sg x p=⟨#[u.toNat]⟩:=by rw[Dr r f,(Hu (G _ hc)).mpr rfl]
   have s:=Af (o:= .tup [.str (sg x p),.int (p:Nat)]) ht;have s3:=Af (o:= .lst [.ref t]) w;have R:l≠a:=(Ab (s _ _ X) w).symm;have bt:DA a H (Av (Av H2 t (.tup [.str (sg x p),.int (p:Nat)])) l (.lst [.ref t])):=fun J o e n=>s3 _ _ (s _ _ (Z J o (C J o e) n));refine k _ l [t] ⟨b0,s3 _ _ (s _ _ X)⟩ bt ?_ R Aa (.cons ?_ .nil);·cases q:H l with|none=>rfl|some o=>have:=s _ _ (Z l o (C l o q) R);rw[w]at this;cases this
   ·unfold Q_;rw[s3 _ _ Aa,a6]
  ·rw[zb hm];have hb:FN a aA p H E:=by cases f:b[p]? with|none=>exact no f|some u=>rw[Z7 f (fun z=>hm (T.mpr ⟨u,f,(U u f).mpr z⟩)) (A u f)]at k;exact k
   exact hb.ast fun J o e Y=>C J o e
 have D:(∀u,b[p]?=some u->isDigit u=false\/BJ b p=true)->LR (Ry (pV (Oq (Rw (fun x y H Q=>∃(c:Nat)(z:Str),x= .str ⟨#[c]⟩/\y= .str z/\Q (.bl (decide (c∈z.cps.toList))) H) (tC (.str "K")) (Bi 3))) (Xz (Bc (tC (.str "h")) (Bc (tC (.str "m")) B_))) (Xz (Bc (tC (.str "h")) (Bc (tC (.str "m")) (Bc (tC (.str "K")) B_))))) (E6 4)) (PR (iT (Bc (Xz (Bc (DF aR "take_one_of" (DQ K aR aA) [] E (Bi 0) (Bc (Bi 4) B_)) (Bc (Bi 2) B_))) B_))) {nx:=fun Y H'=>Q .Bz H',rt:=Q} [some (.ref a),some (.int (j:Nat)),some (.int (p:Nat)),some (.str (DO x none (some (p:Int)))),none] H:=by
  intro A;exists _,rfl,75,_,rfl,rfl,_,rfl;cbv;rw[Ud r hp];by_cases G:AH b p=true
  ·refine BI G ⟨K0,fun g M=>done (cs:=[104,109]) (g:=g) ∎ Aa (Af M) M (fun u f=>?_) A rfl rfl rfl⟩;rw[G];constructor
   ·intro z;rcases zw.mp z with z|z;·exact .inl (xT.mp z)
    ·exact .inr (.inl (xT.mp (zB.mp z)))
   ·rintro(rfl|rfl|⟨Y,z⟩);·decide
    ·decide
    ·cases z
  ·rw[y4]at G;refine B8 G ⟨kX,fun g M=>done (cs:=[104,109,75]) (g:=g) ∎ Aa (Af M) M (fun u f=>?_) A rfl rfl rfl⟩;rw[G];constructor
   ·intro z;rcases zw.mp z with z|z;·exact .inl (xT.mp z)
    ·rcases zw.mp z with z|z;·exact .inr (.inl (xT.mp z))
     ·exact .inr (.inr ⟨xT.mp (zB.mp z),rfl⟩)
   ·rintro(rfl|rfl|⟨rfl,Y⟩)<;>decide
 cases f:b[p]? with
 |none=>exact B8 rfl (D fun u z=>by rw[f]at z;cases z)
 |some u=>
  by_cases hd:isDigit u=true/\BJ b p=false
  ·refine BI (by show(isDigit u&&!BJ b p)=true;rw[hd.1,hd.2];rfl) ⟨_,rfl,K0,fun t ht=>⟨Js,fun L hL=>?_⟩⟩;have C:=Af (o:= .tup [.str ".",.int (p:Nat)]) ht;have s:=C.trans (Af (o:= .lst [.ref t]) hL);have a3:t≠a:=(Ab v ht).symm;have a5:L≠a:=(Ab (C _ _ v) hL).symm;have a4:t≠L:=fun z=>by rw[<-z,Aa]at hL;cases hL
   rw[Z6 a8 f hd.1 hd.2]at k;replace k:=Res.gO k;exists _,rfl,a,I,_,rfl,s _ _ v,C4 _ _,_,rfl,a,x,b,p,1,j,rfl,⟨I,s _ _ v⟩,r,⋯,∅;cases S:number 1 j ⟨b.drop p,p⟩with
   |error e=>rw[S]at k;exact fun H' d e1 bt=>k H' d e1 fun J o e n=>bt J o (s _ _ e) n
   |ok n=>
    rw[S]at k;obtain⟨n,c⟩:=n;obtain⟨n1,n2⟩:=JJ ∅ S;intro H3 a1 a0 B;obtain⟨a9,W⟩:=a1;refine⟨L,(n:Nat),[.ref t],rfl,rfl,B _ _ Aa a5,∅,∅,?_,fun l w=>?_⟩;·show 1*(n:Int).toNat<=sizeLine;have:(13:Nat)<=sizeLine:=⋯;lia
    ·have P:l≠a:=(Ab W w).symm;have O:=Af (o:= .lst (List.replicate (n:Int).toNat [V.ref t]).flatten) w;have er:(List.replicate (n:Int).toNat [V.ref t]).flatten=(List.replicate n t).map V.ref:=by rw[wO];clear S k n1 n2 w O;induction n with|zero=>rfl|succ n ih=>rw[yO,yO,y_,ih];rfl
     refine k _ l (List.replicate n t) ⟨a9,O _ _ W⟩ (fun J o e ne=>O _ _ (B J o (s _ _ e) ne)) ?_ P (by rw[Aa,er]) ?_;·cases q:H l with|none=>rfl|some o=>have:=B l o (s _ _ q) P;rw[w]at this;cases this
     ·have wt:Q_ (Av H3 l (.lst (List.replicate (n:Int).toNat [V.ref t]).flatten)) t (46,p):=O _ _ (B _ _ (by rw[Ac a4,Aa];rfl) a3);generalize Av H3 l (.lst (List.replicate (n:Int).toNat [V.ref t]).flatten)=Hf at wt;clear S k n1 n2 w O er;induction n with|zero=>exact .nil|succ n ih=>exact .cons wt ih
  ·refine B8 ?_ (D fun u' z=>?_);·show(isDigit u&&!BJ b p)=false;cases h1:isDigit u with|false=>rfl|true=>cases h2:BJ b p with|true=>rfl|false=>exact absurd ⟨h1,h2⟩ hd
   ·rw[f]at z;cases z;cases h1:isDigit u with|false=>exact .inl rfl|true=>cases h2:BJ b p with|true=>exact .inr rfl|false=>exact absurd ⟨h1,h2⟩ hd
theorem Yh{b:Bytes}{q:Nat}(h:p<=q)(e:AH b q=false):AH b p=false:=by unfold AH at*;rw[yY]at*;exact fun z=>e ((List.take_sublist_take_left h).subset z)
structure Wr(b:Bytes)(p:Nat)(ws:List (Nat×Nat)):Prop where
 sign:∀q∈ws,q.1=46\/q.1=104\/q.1=109\/q.1=75
 one:(ws.map (·.1)).count 75<=1
 no:AH b p=false->(ws.map (·.1)).count 75=0
theorem Wr.on{b:Bytes}{a:Nat}{d:List (Nat×Nat)}{z:List (Nat×Nat)×Cur}(h:Wr b p d)(k:HM.dk b p a z):Wr b z.2.at_ (d++z.1):=by
 have l:=h.one;have e:((d++z.1).map (·.1)).count 75=(d.map (·.1)).count 75+(z.1.map (·.1)).count 75:=by rw[zu,wN]
 obtain⟨j,i,g⟩:=k.king;refine⟨fun q c=>?_,?_,fun f=>?_⟩
 ·rcases zD.mp c with c|c;·exact h.sign q c
  ·exact k.sign q c
 ·rw[e];by_cases z1:(z.1.map (·.1)).count 75=1;·have:=h.no (i z1).1;lia
  ·lia
 ·rw[e,(g f).1,h.no (g f).2]
theorem Wr.mono{b:Bytes}{q:Nat}{a:List (Nat×Nat)}(h:Wr b p a)(c:p<=q):Wr b q a:=⟨h.sign,h.one,fun z=>h.no (Yh c z)⟩
abbrev RR(w h:Nat)(b:Bytes):Except Nat (List (Piece×Nat×Nat)×Nat×Cur):=readRows w 1024 w (h-1) false false [] ⟨b,0⟩
inductive PY(C CA:Addr):_|mk(a:Addr)(x:Str)(b:Bytes)(w h:Nat):vs=[.ref a,.int (w:Nat),.int (h:Nat)]->Cw C H a x 0->Tx x b->1<=w->w<=13->1<=h->h<=13->(∀e,RR w h b= .error e->FN a CA e H E)->(∀H' l ts ws p f,Cw C H' a x p->p<=b.length->DA a H H'->H l=none->l≠a->H' l=some (.lst (ts.map V.ref))->Paired (Q_ H') ts ws->ws.length=w*h->Wr b p ws->RR w h b=readRows w (f+1) 0 0 (BJ b p) (AH b p) (Jt w h 0 ws) ⟨b.drop p,p⟩->Q (.ref l) H')->PY C CA vs H Q E
structure Bs(C:Addr)(H0:Hp)(a l:Addr)(x:Str)(b:Bytes)(ws:List (Nat×Nat))(p:Nat)(H:Hp):Prop where
 rd:Cw C H a x p
 le:p<=b.length
 but:DA a H0 H
 wr:Wr b p ws
 lst:∃ts,H l=some (.lst (ts.map V.ref))/\Paired (Q_ H) ts ws
theorem Bs.on{g:Hp}{l:Addr}{b:Bytes}{d:List (Nat×Nat)}{q:Nat}(S:Bs C g a l x b d p H)(k:l≠a)(i:Cw C H' a x q)(m:q<=b.length)(j:p<=q)(c:DA a H H'):Bs C g a l x b d q H':=by obtain⟨h,r,o⟩:=S.lst;obtain⟨s,n⟩:=S.rd;refine⟨i,m,S.but.trans c,S.wr.mono j,h,c _ _ r k,Am (fun t z e=>c _ _ e fun q=>?_) o⟩;have f:H t=some _:=e;rw[q,n]at f;cases f
abbrev u7:List Str:=["reader","wide","high","written","row"]
theorem jq:Ah u7 ["reader","wide","high"] (Ad aa):={}
theorem Zh:Wd "/" [47]:=⟨∎,∎⟩
theorem Yy(A:AY):mK 5 "read_board" ["reader","wide","high"] (PY aR aA):=by
 refine A.QM.has fun F=>F.Ju jq fun H Q E hr h hx=>?_;obtain⟨a,x,b,W,N,rfl,⟨dx,ha⟩,tx,w1,X,n1,a3,kE,k⟩:=h;exists%[An (i:=3) jq.nd (AE Cd),BB Br rfl (ER (by rfl) A.GG (#v[pv 2])) (Aw (i:=4) jq.nd) (%[AK (Ao a_ (pv 4) Ae) (Ag (A2 (AG (Cm A) (pv 0) A.rt.cl hr hx.passes (#v[Ai])))) Au|CU Br (Ao FA (AN AU A.D6 y8 (#v[pv 3])) (A9 Ec (pv 1) (A9 Ce (pv 4) Ae))) (Ag (A2 (B4 zK xN wA GO (pv 3) (#v[Ay (cf A) hr rfl hx.passes (#v[pv 0,A9 Eb (A9 Ec (pv 1) (A9 Ce (pv 4) Ae)) (AN AU A.D6 y8 (#v[pv 3]))])]))))]) |Aj (pv 3)];refine⟨zx _,fun l T=>?_⟩;have r:l≠a:=(Ab ha T).symm;have b2:W*N<=169:=uw X a3;refine Ax ?_;cbv;exists _,rfl,(N:Nat),rfl,∅,∅;rw[wO];refine GX (fun i B H'=>∃Z c p f,B=[some (.ref a),some (.int (W:Nat)),some (.int (N:Nat)),some (.ref l),Z]/\Bs aR H a l x b c p H'/\c.length=W*i/\1024<=f+c.length+i/\RR W N b=readRows W f (if i=0 then W else 0) (N-1-(i-1)) (BJ b p) (AH b p) (Jt W N 0 c) ⟨b.drop p,p⟩) ⟨none,[],0,1024,rfl,⟨⟨dx,by rw[Ac (zN r)];exact ha⟩,zx _,fun b' o e Y=>by rw[Ac (Ab e T)];exact e,⟨fun q hq=>(by cases hq),zx _,fun Y=>rfl⟩,[],Aa,.nil⟩,rfl,by simp,rfl⟩ ?_ ?_
 ·rintro i B H' hi ⟨Z,c,p,f,rfl,S,hn,U,e⟩;refine Ax ?_;cbv;have ei:(0:Int)+(i:Int)=(i:Int):=∅;rw[ei];refine EJ (fun j P=>∃p f,j=[some (.ref a),some (.int (W:Nat)),some (.int (N:Nat)),some (.ref l),some (.int (i:Nat))]/\Bs aR H a l x b c p P/\1024<=f+c.length+(i+1)/\RR W N b=readRows W f W (N-1-i) (BJ b p) (AH b p) (Jt W N 0 c) ⟨b.drop p,p⟩) ?_ ?_
  ·rintro j P ⟨p,f,rfl,S,U,e⟩;exists fun m B O=>∃c p f,B=[some (.ref a),some (.int (W:Nat)),some (.int (N:Nat)),some (.ref l),some (.int (i:Nat))]/\Bs aR H a l x b c p O/\c.length+m=W*(i+1)/\m<=W/\1024<=f+c.length+(i+1)/\RR W N b=readRows W f m (N-1-i) (BJ b p) (AH b p) (Jt W N 0 c) ⟨b.drop p,p⟩,⟨W,c,p,f,rfl,S,by rw[hn,xR],ze _,U,e⟩;rintro m B O ⟨c,p,f,rfl,S,hm,b0,U,e⟩;obtain⟨D,s,G⟩:=S.lst;have el:=zE G;have b1:W*(i+1)<=W*N:=wy _ hi;have eW:(W:Int)*((i:Int)+1)=((W*(i+1):Nat):Int):=by rw[tK];rfl
   exists _,rfl,l,_,rfl,.inl (AI.of s),_,rfl,_,rfl,_,_,rfl,rfl,_,_,rfl,rfl,.inl ⟨∅,∅⟩,_,_,rfl,rfl,_,rfl;cbv;rw[eW,z3];by_cases m0:m=0;·subst m0;refine B8 (zo ∅) ⟨_,c,p,f,rfl,S,∅,∅,?_⟩;rw[zb ∅];exact e
   ·refine BI (zj ∅) ⟨fun j v=>∃R,R<m/\∃c p f,j=[some (.ref a),some (.int (W:Nat)),some (.int (N:Nat)),some (.ref l),some (.int (i:Nat))]/\Bs aR H a l x b c p v/\c.length+R=W*(i+1)/\R<=W/\1024<=f+c.length+(i+1)/\RR W N b=readRows W f R (N-1-i) (BJ b p) (AH b p) (Jt W N 0 c) ⟨b.drop p,p⟩,fun j v z=>z,?_⟩;obtain⟨f,rfl⟩:∃g,f=g+1:=⟨f-1,∅⟩;have d1:c.length/W=i:=by rw[show c.length=W*i+(W-m) by rw[xR]at hm;lia,uj ∅,v_ ∅];rfl
    have d2:c.length%W=W-m:=by rw[show c.length=W*i+(W-m) by rw[xR]at hm;lia,ui,xn ∅]
    rw[HM.XC (h:=N) (o:=c.length) ∅ (by rw[d1]) d2]at e;have em:(W:Int)*((i:Int)+1)-(((D.map V.ref).length:Nat):Int)=(m:Int):=by rw[eW,z3];lia
    exists _,rfl,.inl ⟨rfl,_,AI.of s⟩,_,rfl,_,rfl,_,rfl,_,_,rfl,rfl,_,_,rfl,rfl,.inl ⟨∅,∅⟩,_,rfl,l,_,rfl,.inl (AI.of s),_,_,rfl,rfl,a,x,b,p,m,?_,S.rd,tx,S.le,∅,∅;·rw[em];rfl
    ·cases u:CP m (BJ b p) (AH b p) ⟨b.drop p,p⟩with
     |error e1=>rw[u]at e;have:=kE _ e;exact fun v d e2 bt=>this v d e2 (S.but.trans bt)
     |ok z=>
      rw[u]at e;have M:=HM.X3 ∅ u;have z1:=M.oZ;have z2:=M.oY;intro v l4 t4 a1 w n4 a9 a4 p4;have e4:=zE p4;obtain⟨a7,a5⟩:=a1;have I:=w _ _ s r;exists l,l4,_,_,rfl,rfl,I,a4,?_;·rw[z3,z3];have:(1000:Nat)<=sizeLine:=⋯;lia
      ·have keep:∀t y,Q_ v t y->Q_ (Av v l (.lst (D.map V.ref++t4.map V.ref))) t y:=fun t y C=>by
        unfold Q_;rw[Ac];·exact C
        ·intro q;have n:v t=some _:=C;rw[q,I]at n;cases n
       obtain⟨b3,a6⟩:=S.rd;refine⟨m-z.1.length,∅,c++z.1,z.2.at_,f,rfl,⟨⟨a7,by rw[Ac (zN r)];exact a5⟩,M.le,fun b' o e ne=>?_,S.wr.on M,D++t4,by rw[Aa,zu],?_⟩,by rw[zd];lia,∅,by rw[zd];lia,?_⟩;·rw[Ac (Ab e T)];exact w b' o (S.but b' o e ne) ne
       ·refine BU (Am (fun t y C=>keep t y (w _ _ C fun q=>?_)) G) (Am keep p4);have n:O t=some _:=C;rw[q,a6]at n;cases n
       ·rw[e];show readRows W f (m-z.1.length) (N-1-i) (BJ b z.2.at_) (AH b z.2.at_) (Jt W N 0 c++Jt W N c.length z.1) z.2=_;rw[HM.WC,xQ];congr 1;rw[<-M.rest]
  ·intro J;refine CS (DG ⟨_,rfl,_,_,rfl,rfl,_,rfl,?_⟩);by_cases h0:i=0;·subst h0;refine B8 ⋯ (J _ _ ⟨p,f,rfl,S,∅,?_⟩);exact e
   ·refine BI (by rw[zq];lia) ?_;obtain⟨L,K⟩:=S.rd;rw[zb h0]at e;obtain⟨f,rfl⟩:∃g,f=g+1:=⟨f-1,by have:W*i<=W*N:=wy _ ∅;lia⟩;rw[HM.XD ∅]at e;exists _,rfl,a,L,_,rfl,K,C4 _ _,a,x,_,b,[47],p,rfl,⟨L,K⟩,tx,Zh,by simp,(by show 1<=1000;decide);rw[JQ]at e|-;by_cases u:shl [47] (b.drop p)=[(47:UInt8)].length
    ·rw[zc u]at e|-;intro H2 a2 a0 a8;have hp:p<b.length:=by
      by_cases z:p<b.length;·exact z
      ·rw[yN ∅]at u;cases u
     refine J _ _ ⟨p+1,f,rfl,S.on r a2 ∅ ∅ a8,∅,?_⟩;rw[e];show readRows W f W (N-1-(i-1)-1) (BJ b (p+1)) (AH b (p+1)) (Jt W N 0 c) ⟨(b.drop p).drop 1,p+1⟩=_;rw[xr,show N-1-(i-1)-1=N-1-i by lia]
    ·rw[zb u]at e|-;have:=kE _ e;exact fun O d e1 bt=>this O d e1 (S.but.trans bt)
 ·rintro B H' ⟨Z,c,p,f,rfl,S,hn,U,e⟩;rw[zb ∅,show N-1-(N-1)=0 by lia]at e;obtain⟨f,rfl⟩:∃g,f=g+1:=⟨f-1,∅⟩;obtain⟨D,h1,h2⟩:=S.lst;exact⟨_,rfl,k H' l D c p f S.rd S.le S.but T r h1 h2 hn S.wr e⟩
theorem JH(w h:Nat):∀(a:List (Nat×Nat))(o:Nat),Jt w h o a=(List.range a.length).flatMap fun i=>fk w h (o+i) (a.getD i (0,0)) |[],o=>rfl|z::a,o=>by rw[Jt,JH w h a (o+1),zm,wJ,xa,List.flatMap_map];congr 1;congr 1;funext i;show fk w h (o+1+i) (a.getD i (0,0))=fk w h (o+(i+1)) ((z::a).getD (i+1) (0,0));rw[show o+1+i=o+(i+1) by lia];rfl
theorem Wk{a b:Type}(q:a->Bool)(g:a->b):∀xs:List a,(xs.findSome? fun o=>if q o=true then some (g o)else none)=(xs.find? q).map g|[]=>rfl|x::xs=>by rw[wz,yn];cases h:q x with|true=>rfl|false=>exact Wk q g xs
def Ul(w h o:Nat):Nat:=13*(h-1-o/w)+o%w
section
variable{w h:Nat}{ys:List Nat}
theorem QR(g:1<=w)(a:w<=13)(f:h<=13){o:Nat}(b:o<w*h):Ul w h o<169/\Ul w h o%13<w/\Ul w h o/13<h:=by have e:o/w<h:=(yw ∅).mpr (by rw[yh];exact b);have c:o%w<w:=wV _ ∅;unfold Ul;generalize o/w=d at e|-;generalize o%w=m at c|-;lia
theorem cZ:(A1 ys w h 46 (w*h)).length=169:=by unfold A1;simp
theorem ir(a:c<169):(A1 ys w h 46 (w*h)).getD c 0=if c%13<w/\c/13<h/\(h-1-c/13)*w+c%13<w*h then ys.getD ((h-1-c/13)*w+c%13) 46 else 46:=by unfold A1;rw[z5,z7,xh a];rfl
theorem VG(f:1<=w)(a:w<=13)(d:h<=13){o:Nat}(b:o<w*h):(A1 ys w h 46 (w*h)).getD (Ul w h o) 0=ys.getD o 46:=by have e:=(HQ (c:=Ul w h o) f a b).mpr rfl;rw[ir (QR f a d b).1,zc ⟨e.1,e.2.1,by rw[e.2.2];exact b⟩,e.2.2]
theorem PD(d:1<=w)(b:w<=13)(e:c<169)(a:(A1 ys w h 46 (w*h)).getD c 0≠46):∃o,o<w*h/\c=Ul w h o/\(A1 ys w h 46 (w*h)).getD c 0=ys.getD o 46:=by
 rw[ir e]at a|-;split at a;·rename_i q;rw[zc q];exact⟨_,q.2.2,(HQ d b q.2.2).mp ⟨q.1,q.2.1,rfl⟩,rfl⟩
 ·exact absurd rfl a
end
section
variable{r:Rules}{b:Bytes}{p:Nat}{ws:List (Nat×Nat)}
abbrev VH(r:Rules)(a:List (Nat×Nat)):List Nat:=A1 (a.map (·.1)) r.wide r.high 46 (r.wide*r.high)
theorem Og{o:Nat}{d:Nat×Nat}(a:d.1=46\/o<ws.length):(ws.map (·.1)).getD o 46=(ws.getD o d).1:=by
 rw[z5,z5,z7];cases e:ws[o]? with
 |some z=>rfl
 |none=>
  rcases a with z|z;·exact z.symm
  ·rw[z4 z]at e;cases e
theorem sign_of(W:Wr b p ws){o:Nat}(a:o<ws.length):(ws.getD o (0,0)).1=46\/(ws.getD o (0,0)).1=104\/(ws.getD o (0,0)).1=109\/(ws.getD o (0,0)).1=75:=by refine W.sign _ ?_;rw[z5,z4 a];exact wo a
theorem YJ{l:List Nat}(h:l.count c<=1){j:Nat}(a:l[i]?=some c)(b:l[j]?=some c):i=j:=by
 induction l generalizing i j with
 |nil=>cases a
 |cons x l d=>
  rw[ur]at h;cases i with
  |zero=>cases j with|zero=>rfl|succ j=>exfalso;have e:x=c:=zt a;have m:c∈l:=zf ‹b›;have:=vk.mpr m;rw[e]at h;simp at h;lia
  |succ i=>cases j with|zero=>exfalso;have e:x=c:=zt b;have m:c∈l:=zf ‹a›;have:=vk.mpr m;rw[e]at h;simp at h;lia|succ j=>have:=d (i:=i) (j:=j) ∅ ‹a› ‹b›;lia
theorem N2(Z:B0 r)(v:ws.length=r.wide*r.high)(W:Wr b p ws):AZ (VH r ws):=by
 have u:=Z.w5;refine⟨cZ,fun c h=>?_,fun c d h q n m=>?_⟩
 ·by_cases hne:(VH r ws).getD c 0=46;·exact .inl hne
  ·obtain⟨o,g,Y,e⟩:=PD ∅ Z.KR h hne;rw[e,Og (d:=(0,0)) (.inr ∅)];exact sign_of W ∅
 ·obtain⟨o,g,t,s⟩:=PD ∅ Z.KR h (by rw[n];decide);obtain⟨k,f,j,i⟩:=PD ∅ Z.KR q (by rw[m];decide);have a:∀o,o<r.wide*r.high->(ws.map (·.1)).getD o 46=75->(ws.map (·.1))[o]?=some 75:=fun o g e=>by
   have l:o<(ws.map (·.1)).length:=by rw[z3];lia
   rw[z5,z4 l]at e;rw[z4 l];exact zT some e
  have:o=k:=YJ W.one (a o g (by rw[<-s];exact n)) (a k f (by rw[<-i];exact m));rw[t,j,this]
theorem WK{s:Nat}(a:s=104\/s=109\/s=75)(c:Nat):mayStand (D5 s) (r.kindAt c)=WJ r s c:=by unfold WJ;generalize r.kindAt c=k;rcases a with rfl|rfl|rfl<;>cases k<;>decide
theorem Kl(o:Nat):Fc r o=Ul r.wide r.high o:=rfl
theorem jH(Z:B0 r)(g:ws.length=r.wide*r.high)(W:Wr b p ws){o:Nat}(c:o<r.wide*r.high):(fk r.wide r.high o (ws.getD o (0,0))).find? (fun x=>!mayStand x.1 (r.kindAt x.2.1))=if MM r (VH r ws) o=true then some (D5 (ws.getD o (0,0)).1,Ul r.wide r.high o,(ws.getD o (0,0)).2)else none:=by
 have f:=Z.w5;have e:(VH r ws).getD (Fc r o) 0=(ws.getD o (0,0)).1:=by rw[Kl,VG ∅ Z.KR Z.Vt c,Og (d:=(0,0)) (.inr ∅)]
 unfold MM;rw[e];unfold fk;have a:=sign_of W (o:=o) ∅;generalize ws.getD o (0,0)=z at a e|-;by_cases h46:z.1=46;·rw[zc h46,zj h46];rfl
 ·rw[zb h46,zo h46,yn];rw[WK (a.resolve_left h46)];show(match !WJ r z.1 (Ul r.wide r.high o)with|true=>_|false=>_)=_;rw[Kl];cases WJ r z.1 (Ul r.wide r.high o)<;>rfl
theorem cB(Z:B0 r)(d:ws.length=r.wide*r.high)(W:Wr b p ws):(Jt r.wide r.high 0 ws).find? (fun x=>!mayStand x.1 (r.kindAt x.2.1))=((List.range (r.wide*r.high)).find? (MM r (VH r ws))).map fun o=>(D5 (ws.getD o (0,0)).1,Ul r.wide r.high o,(ws.getD o (0,0)).2):=by
 rw[JH,List.find?_flatMap,<-Wk,d];have c:∀xs:List Nat,(∀o∈xs,o<r.wide*r.high)->(xs.findSome? fun i=>(fk r.wide r.high (0+i) (ws.getD i (0,0))).find? (fun x=>!mayStand x.1 (r.kindAt x.2.1)))=xs.findSome? fun o=>if MM r (VH r ws) o=true then some (D5 (ws.getD o (0,0)).1,Ul r.wide r.high o,(ws.getD o (0,0)).2)else none:=by intro xs;induction xs with|nil=>intro Y;rfl|cons o xs e=>intro h;rw[wz,wz,e fun o a=>h o (zg _ a),xQ,jH Z d W (h o zh)]
 exact c _ fun o a=>zC.mp a
theorem L7(c:ws.length=r.wide*r.high){x:Piece×Nat×Nat}:x∈Jt r.wide r.high 0 ws↔∃o,o<r.wide*r.high/\(ws.getD o (0,0)).1≠46/\x=(D5 (ws.getD o (0,0)).1,Ul r.wide r.high o,(ws.getD o (0,0)).2):=by
 rw[JH,yH,c];constructor
 ·rintro⟨o,b,a⟩;rw[xQ]at a;unfold fk at a;split at a;·cases a
  ·rename_i q;exact⟨o,zC.mp b,q,zB.mp a⟩
 ·rintro⟨o,b,q,rfl⟩;exists o,zC.mpr b;rw[xQ];unfold fk;rw[zb q];exact zB.mpr rfl
theorem Pd(Z:B0 r)(i:ws.length=r.wide*r.high)(W:Wr b p ws){s:Nat}{k:Piece}(h:s=104\/s=109)(j:D5 s=k)(c:Nat):c∈(Jt r.wide r.high 0 ws).filterMap (fun x=>if x.1=k then some x.2.1 else none)↔c<169/\(VH r ws).getD c 0=s:=by
 have v:=Z.w5;rw[yA];constructor
 ·rintro⟨x,m,e⟩;obtain⟨o,g,q,rfl⟩:=(L7 i).mp m;split at e;·rename_i f;have l:Ul r.wide r.high o=c:=zt e;refine⟨by rw[<-l];exact(QR ∅ Z.KR Z.Vt g).1,?_⟩;rw[<-l,VG ∅ Z.KR Z.Vt g,Og (d:=(0,0)) (.inr ∅)];replace f:D5 (ws.getD o (0,0)).1=k:=f;have a:=sign_of W (o:=o) ∅;generalize(ws.getD o (0,0)).1=z at f a q|-;rw[<-j]at f;rcases a with rfl|rfl|rfl|rfl<;>rcases h with rfl|rfl<;>first|rfl|exact absurd rfl q|exact absurd f ⋯
  ·cases e
 ·rintro⟨n,e⟩;obtain⟨o,g,u,t⟩:=PD ∅ Z.KR n (by rw[e];rcases h with rfl|rfl<;>decide);rw[t,Og (d:=(0,0)) (.inr ∅)]at e;exists _,(L7 i).mpr ⟨o,g,by rw[e];rcases h with rfl|rfl<;>decide,rfl⟩;rw[e,zc j,u]
theorem jz(Z:B0 r)(g:ws.length=r.wide*r.high)(W:Wr b p ws)(a:Nat):(⟨setFrom ((Jt r.wide r.high 0 ws).filterMap fun(x:Piece×Nat×Nat)=>if x.1= .hunter then some x.2.1 else none),setFrom ((Jt r.wide r.high 0 ws).filterMap fun(x:Piece×Nat×Nat)=>if x.1= .man then some x.2.1 else none),(((Jt r.wide r.high 0 ws).find? fun(x:Piece×Nat×Nat)=>x.1== .king).map fun(x:Piece×Nat×Nat)=>x.2.1).getD TAKEN,a⟩:Tafl.Pos)=Aq (VH r ws) a:=by
 have n:=Z.w5;have B:=N2 Z g W;refine HM.FY B (fun c=>?_) (fun c=>?_) ?_ rfl;·cbv;rw[BC,y3];exact Pd Z g W (.inl rfl) rfl c
 ·cbv;rw[BC,y3];exact Pd Z g W (.inr rfl) rfl c
 ·cbv;cases e:(Jt r.wide r.high 0 ws).find? (fun x=>x.1== .king)with
  |some x=>
   have k:=tU e;have h:=qk e;obtain⟨o,i,q,rfl⟩:=(L7 g).mp k;show Ul r.wide r.high o=_;symm;rw[B.Bg (QR ∅ Z.KR Z.Vt i).1,VG ∅ Z.KR Z.Vt i,Og (d:=(0,0)) (.inr ∅)];replace h:(D5 (ws.getD o (0,0)).1==Piece.king)=true:=h;have f:=sign_of W (o:=o) ∅;generalize(ws.getD o (0,0)).1=z at h f q|-;rcases f with rfl|rfl|rfl|rfl;·exact absurd rfl q
   ·exact absurd h ⋯
   ·exact absurd h ⋯
   ·rfl
  |none=>symm;rw[ug,uZ,B.CG];intro c l j;obtain⟨o,i,s,m⟩:=PD ∅ Z.KR l (by rw[j];decide);rw[m,Og (d:=(0,0)) (.inr ∅)]at j;have:=xS.mp e _ ((L7 g).mpr ⟨o,i,by rw[j];decide,rfl⟩);rw[j]at this;exact this rfl
theorem cY(Z:B0 r)(l:ws.length=r.wide*r.high)(W:Wr b p ws)(f:(List.range (r.wide*r.high)).find? (MM r (VH r ws))=none):Right r (VH r ws):=by have q:=Z.w5;intro c i a;obtain⟨o,g,j,t⟩:=PD ∅ Z.KR i a;obtain⟨s,n,m⟩:=QR (h:=r.high) ∅ Z.KR Z.Vt g;have d:=xS.mp f o (zC.mpr g);rw[y4]at d;unfold MM at d;rw[Kl,<-j,zo a]at d;have e:WJ r ((VH r ws).getD c 0) c=true:=‹d›;have k:=(N2 Z l W).sign c i;refine⟨BH.mpr (by rw[j];exact⟨n,m⟩),?_⟩;rw[WK (k.resolve_left a)];exact e
end
def Cb(b:Bytes):Str:=Ak (b.map UInt8.toNat)
def JK(n:Nat):Bytes:=if n=0 then[]else digitsOf n
inductive O0:_|mk(n:Nat):vs=[.int n]->n<=13->Q (.str (Cb (JK n))) H->O0 vs H Q E
inductive Oz:_|mk(b:List Nat):vs=[.str (Ak b)]->b.length<=13->(∀c∈b,c=46\/c=104\/c=109\/c=75)->Q (.str (Cb (rowLine 0 (b.map D5)))) H->Oz vs H Q E
theorem cO:∀n:Nat,n<=13->n≠0->(toString ((n:Nat):Int):Str)=Cb (digitsOf n):=by intro n h a;have:n=1\/n=2\/n=3\/n=4\/n=5\/n=6\/n=7\/n=8\/n=9\/n=10\/n=11\/n=12\/n=13:=∅;rcases this with rfl|rfl|rfl|rfl|rfl|rfl|rfl|rfl|rfl|rfl|rfl|rfl|rfl<;>decide+kernel
theorem SS:bootBuiltins "str"=some (.type "str"):=∎
theorem IM:∀n:Nat,n<=13->(JK n).length<=2:=∎
theorem LS(a b:Bytes):Cb a++Cb b=Cb (a++b):=by
 have e:(Cb a++Cb b).cps.toList=(a++b).map UInt8.toNat:=by have h:(Cb a++Cb b).cps=(Cb a).cps++(Cb b).cps:=rfl;rw[h];simp[Cb,Ak]
 exact Dx e
theorem DY(a:Bytes):(Cb a).length=a.length:=by unfold Cb;rw[B3,z3]
theorem o3:Ah ["empty"] ["empty"] (Ad RJ):={}
theorem KE(b:AY):FJ 1 "number_text" ["empty"] O0:=by
 refine b.NX.has fun F=>F.ok o3 fun H Q E c h=>?_;obtain⟨n,rfl,a,k⟩:=h;exists Ag (Aj (D4 (Ao a_ (pv 0) Ae) (JG QS (by rfl) b.m3 SS (#v[pv 0])) Ai));exists _,rfl,_,_,rfl,rfl,_,rfl;unfold JK at k;by_cases h0:n=0;·subst h0;rw[zc rfl]at k;exact B8 ⋯ k
 ·rw[zb h0]at k;refine BI (zj ∅) ⟨_,rfl,_,rfl,?_,?_⟩;·have:∀m:Nat,m<=13->((m:Nat):Int).natAbs.log2<1920:=∎;exact this n a
  ·rw[cO n a h0];exact k
abbrev r4:List Str:=["cells","text","empty","piece"]
theorem U8:Ah r4 ["cells"] (Ad RH):={}
theorem S_(u:AY):FJ 2 "row_text" ["cells"] Oz:=by
 refine u.V6.has fun F=>F.ok U8 fun H Q E v h=>?_;obtain⟨b,rfl,C,z,k⟩:=h;exists%[An (i:=1) U8.nd Ai,An (i:=2) U8.nd Ae,BB y0 rfl (UP (pv 0)) (Aw (i:=3) U8.nd) (Ag (AK (Ao AX (pv 3) Ai) (Ag (Qk (i:=2) U8.nd Ae Vj)) (%[Qk (i:=1) U8.nd (A9 Ee (Ay (KE u) v rfl Ar (#v[pv 2])) (pv 3)) SM|An (i:=2) U8.nd Ae]))) |Aj (A9 Ee (pv 1) (Ay (KE u) v rfl Ar (#v[pv 2])))];generalize m:rowLine 0 (b.map D5)=f at k;refine⟨_,rfl,Ak b,rfl,WX (fun i o H'=>E3 fun(p:Option V) (a:Bytes) (n:Nat)=>A5 (o=[some (.str (Ak b)),some (.str (Cb a)),some (.int (n:Nat)),p]) (H'=H) (n<=i) (a.length<=3*i) (f=a++rowLine n ((b.drop i).map D5))) ⟨none,[],0,rfl,rfl,ze _,ze _,by rw[<-m];rfl⟩ ?_ ?_⟩
 ·rintro i c o H' B ⟨p,a,n,rfl,rfl,w,g,d⟩;have l:b[i]?=some c:=by simpa[Ak]using B
  obtain⟨r,s⟩:=z8.mp l;rw[yf r,s,zH,rowLine]at d;exists _,rfl,rfl,_,rfl;by_cases h46:c=46;·subst h46;rw[zc (show D5 46=Piece.none from rfl)]at d;exact BI (X7 (n:=46) rfl) ⟨_,rfl,_,_,rfl,rfl,_,a,n+1,rfl,rfl,∅,∅,d⟩
  ·have j:=z c (zf l);have A:¬D5 c=Piece.none:=by rcases j with h|h|h|h<;>subst h<;>first|exact absurd rfl h46|decide
   have e:(pieceByte (D5 c)).toNat=c:=by rcases j with h|h|h|h<;>subst h<;>first|exact absurd rfl h46|rfl
   rw[zb A]at d;refine B8 (X8 (n:=46) h46) ?_;have q:=IM n ∅;have y:=DY (JK n);have x:Cb (JK n)++(⟨#[c]⟩:Str)=Cb (JK n++[pieceByte (D5 c)]):=by rw[<-LS];congr 1;unfold Cb;rw[List.map_singleton,e];rfl
   exists _,rfl,_,rfl,n,rfl,∅,_,rfl,_,_,rfl,rfl,?_,_,_,rfl,rfl,?_;·rw[y];show(JK n).length+1<=sizeLine;have:=BN;lia
   ·rw[x,DY,DY,zd];show a.length+((JK n).length+1)<=sizeLine;have:=BN;lia
   ·exists some (.str ⟨#[c]⟩),a++(JK n++[pieceByte (D5 c)]),0,?_,rfl,zx _,?_;·rw[x,LS];rfl
    ·rw[zd,zd];show a.length+((JK n).length+1)<=3*(i+1);lia
    ·rw[d,zX,zX];rfl
 ·rintro o H' ⟨p,a,n,rfl,rfl,w,g,d⟩;have t:(Ak b).cps.size=b.length:=by simp[Ak]
  rw[t]at w g d;rw[List.drop_length,wk,rowLine]at d;have q:=IM n ∅;exists _,rfl,_,rfl,n,rfl,∅,_,_,rfl,rfl,?_;·rw[DY,DY];have:=BN;lia
  ·rw[LS];have:f=a++JK n:=d;rw[<-this];exact k
inductive R7(C:Addr):_|mk(a p:Addr)(r:Rules)(b:List Nat)(s:Nat):vs=[.ref a,.ref p]->Bf C H a r->Dd H p b s->AZ b->s<=1->(∀H',Ap H H'->Q (.str (Cb (r.line (Aq b s)))) H')->R7 C vs H Q E
theorem Je{a b:Type}{f g:a->List b}:∀{l:List a},(∀x∈l,f x=g x)->l.flatMap f=l.flatMap g|[],_=>rfl|x::l,h=>by rw[xa,xa,h x zh,Je fun y c=>h y (zg _ c)]
theorem gv{j:Nat}(f:i<=b.length)(e:j<=b.length):DO (Ak b) (some (i:Int)) (some (j:Int))=Ak ((b.drop i).take (j-i)):=by
 have a:(Ak b).length=b.length:=B3 b;unfold DO;rw[a,Bb];have d:HT.CQ b.length 0 (some (i:Int))=i:=by simp only[HT.CQ];split<;>lia
 have c:HT.CQ b.length b.length (some (j:Int))=j:=by simp only[HT.CQ];split<;>lia
 rw[d,c];rfl
theorem ju{r:Rules}(Z:B0 r)(B:AZ b)(s:Nat){y:Nat}(f:y<r.high):((b.drop (13*y)).take r.wide).map D5=r.rowOf (Aq b s) y:=by
 have e:=Z.Vt;have a:=Z.KR;have h:=B.len;unfold Rules.rowOf;apply xJ;·rw[z3,zO,yI,z3,yj];lia
 ·intro x i d;have g:x<r.wide:=‹d›;rw[xp,List.getElem_take,List.getElem_drop,xp,vg];have c:Tafl.cellOf x y=13*y+x:=rfl;rw[c,B.on s ∅,z5,z4 ∅];rfl
theorem M_(f:Nat->List Nat):∀n,TL.EX [47] ((List.range (n+1)).map f)=(List.range (n+1)).flatMap fun i=>(if i=0 then[]else[47])++f i:=by
 have a:∀(l:List Nat)(x:Nat),TL.EX [47] ((x::l).map f)=f x++l.flatMap fun i=>[47]++f i:=by intro l;induction l with|nil=>intro x;simp[TL.EX] |cons y l b=>intro x;have:=b y;rw[zH]at this;show f x++([47]++TL.EX [47] (f y::l.map f))=_;rw[this,xa,zX]
 intro n;rw[wJ,a,xa];congr 1;apply Je;intro x c;obtain⟨z,Y,rfl⟩:=zk.mp c;rw[zb (Nat.succ_ne_zero z)]
theorem join_rows(n:Nat)(F:Nat->Bytes):Txt.join ("/":Str) ((List.range (n+1)).map fun i=>Cb (F i))=Ak (((List.range (n+1)).flatMap fun i=>(if i=0 then[]else[47])++F i).map UInt8.toNat):=by refine Dx ?_;rw[TL.join_eq];show TL.tl (Str.join _ _)=_;rw[TL.Es,zG];have a:(List.range (n+1)).map (TL.tl∘fun i=>Cb (F i))=(List.range (n+1)).map fun i=>(F i).map UInt8.toNat:=y6 fun i Y=>Bb _;rw[a,show TL.tl ("/":Str)=[47]from rfl,M_,rY];apply Je;intro i Y;rw[zu];split<;>rfl
theorem M3(F:Nat->Bytes)(h:∀i,(F i).length<=41):∀n,((List.range n).flatMap fun i=>(if i=0 then[]else[(47:UInt8)])++F i).length<=42*n
|0=>ze _
|n+1=>by
 rw[yg,yd,zd,yb,zd];have:=M3 F h n;have:=h n;have:(if n=0 then[]else[(47:UInt8)]).length<=1:=by split<;>simp
 lia
theorem R1(x y:Str):(x++y).length=x.length+y.length:=by show(x.cps++y.cps).size=x.cps.size+y.cps.size;rw[Array.size_append]
theorem fN{r:Rules}(Z:B0 r){s:Nat}(k:s<=1)(c:Str)(a:c=Ak [if s=0 then 104 else 107]):Txt.join ("/":Str) ((List.range r.high).map fun i=>Cb (rowLine 0 (r.rowOf (Aq b s) (r.high-1-i))))++(" ":Str)++c=Cb (r.line (Aq b s)):=by
 obtain⟨n,d⟩:∃n,r.high=n+1:=⟨r.high-1,by have:=Z.h5;lia⟩;have g:Txt.join ("/":Str) ((List.range r.high).map fun i=>Cb (rowLine 0 (r.rowOf (Aq b s) (r.high-1-i))))=Ak (((List.range r.high).flatMap fun i=>(if i=0 then[]else[47])++rowLine 0 (r.rowOf (Aq b s) (r.high-1-i))).map UInt8.toNat):=by
  refine Dx ?_;rw[TL.join_eq];show TL.tl (Str.join _ _)=_;rw[TL.Es,zG,d];have j:(List.range (n+1)).map (TL.tl∘fun i=>Cb (rowLine 0 (r.rowOf (Aq b s) (n+1-1-i))))=(List.range (n+1)).map fun i=>(rowLine 0 (r.rowOf (Aq b s) (n+1-1-i))).map UInt8.toNat:=by refine y6 fun i Y=>?_;exact Bb _
  rw[j,show TL.tl ("/":Str)=[47]from rfl,M_,rY];apply Je;intro i Y;rw[zu];split<;>rfl
 rw[g];unfold Rules.line Cb;rw[a];refine Dx ?_;have h:∀x y:List Nat,(Ak x++(" ":Str)++Ak y).cps.toList=x++[32]++y:=fun x y=>by have f:(Ak x++(" ":Str)++Ak y).cps=(Ak x).cps++(" ":Str).cps++(Ak y).cps:=rfl;rw[f];have e:(" ":Str).cps=#[32]:=rfl;rw[e];simp[Ak]
 rw[h,zu,zX];congr 1;have:(Aq b s).side=s:=rfl;rw[this];by_cases h0:s=0;·rw[zc h0];simp[h0]
 ·rw[zb h0];simp[h0]
abbrev t6:List Str:=["hall","position","cells","rows","y"]
theorem eH:Ah t6 ["hall","position"] (Ad Ws):={}
theorem Et:∀(l:List Piece)(n:Nat),n+l.length<=13->(rowLine n l).length<=3*l.length+2
|[],n,h=>by rw[rowLine];have:=IM n ‹h›;unfold JK at this;simp only[yQ,ud,xQ];exact this
|x::l,n,h=>by
 rw[zm]at h;rw[rowLine];split;·have:=Et l (n+1) ∅;rw[zm];lia
 ·have b:=Et l 0 ∅;have a:=IM n ∅;unfold JK at a;rw[zd,zm,zm];lia
theorem Vq(d:AY):FJ 3 "line_of" ["hall","position"] (R7 aH):=by
 obtain⟨T,hT,W⟩:=d.turns;refine d.YF.has fun F=>F.ok eH fun H Q E X h=>?_;obtain⟨a,p,r,b,f,rfl,N,K,B,t,k⟩:=h;obtain⟨S,G,bs,M,a0,a3,a2⟩:=N.ex;exists%[An (i:=2) eH.nd (Az Be (pv 1) Ae),An (i:=3) eH.nd (AE Cd),BB y0 rfl (XJ (by rfl) d.GG (#v[A9 Eb (Al (pv 0)) Ae,Hq EC Ae,Hq EC Ae])) (Aw (i:=4) eH.nd) (Ag (A2 (B4 zK zW zY By (pv 3) (#v[Ay (S_ d) X rfl Ar (#v[D3 HH (pv 2) (CW (A9 Ec (AB (v:= .int 13) rfl (C2 d.Dc) ⟨_,rfl⟩) (pv 4))) (CW (A9 Ce (A9 Ec (AB (v:= .int 13) rfl (C2 d.Dc) ⟨_,rfl⟩) (pv 4)) (Al (pv 0))))])])))) |Aj (A9 Ee (A9 Ee (B4 yc xw xt GN Ai (#v[pv 3])) Ai) (Az Be (AB (v:= .ref T) rfl hT rfl) (Az Be (pv 1) Ae)))];have Z:=N.Z;have a4:=Z.Vt;have U:=Z.KR;have h5:=Z.h5;have hb:=B.len;let R:Nat->Bytes:=fun j=>rowLine 0 (r.rowOf (Aq b f) (r.high-1-j));have m:∀j,(R j).length<=41:=fun j=>by
  have O:(r.rowOf (Aq b f) (r.high-1-j)).length=r.wide:=by unfold Rules.rowOf;simp
  have:=Et (r.rowOf (Aq b f) (r.high-1-j)) 0 ∅;show(rowLine 0 _).length<=41;lia
 refine⟨_,rfl,p,_,_,V.str (Ak b),rfl,rfl,.of K,rfl,zx _,fun l L=>?_⟩;have D:Ap H (Av H l (.lst [])):=Af L;refine⟨_,rfl,a,aH,S,_,_,rfl,D _ _ M,d.hc.cl,d.hc.Pa,IY r G,_,_,rfl,rfl,1,rfl,1,rfl,_,_,_,r.high,rfl,?_,Vu (n:=r.high) (fun i x H'=>∃z,A3 (x=[some (.ref a),some (.ref p),some (.str (Ak b)),some (.ref l),z]) (Ap H H') (H' l=some (.lst ((List.range i).map fun j=>V.str (Cb (R j)))))) ⟨none,rfl,D,Aa⟩ ?_ ?_⟩;·have:=nU.neg (i:=(r.high:Int)-1) (j:= -1) ∅ ∅ ⋯ ⋯;rwa[show((r.high:Int)-1-(-1)).toNat=r.high by lia]at this
 ·rintro i x H' hi ⟨z,rfl,s,g⟩;have P:(fun i j=>i-j) (r.high:Int) 1+((i:Nat):Int)*(-1)=((r.high-1-i:Nat):Int):=by show(r.high:Int)-1+((i:Nat):Int)*(-1)=_;lia
  have I:r.high-1-i<r.high:=∅;generalize A:r.high-1-i=y at I P;have u:DO (Ak b) (some (13*((y:Nat):Int))) (some (13*((y:Nat):Int)+(r.wide:Int)))=Ak ((b.drop (13*y)).take r.wide):=by have:=gv (b:=b) (i:=13*y) (j:=13*y+r.wide) ∅ ∅;rw[show 13*y+r.wide-13*y=r.wide by lia]at this;rw[<-this];congr 2
  exists _,rfl,.inl ⟨rfl,_,AI.of g⟩,_,rfl,_,rfl,_,_,rfl,rfl,.inl ⟨⋯,⋯⟩,_,rfl,_,rfl,_,_,rfl,rfl,.inl ⟨⋯,⋯⟩,_,rfl,a,aH,S,_,_,rfl,s _ _ M,d.hc.cl,d.hc.O_,IX r G,_,_,rfl,rfl,_,rfl,Ak b,rfl,by rw[B3,hb];exact BN,(b.drop (13*y)).take r.wide,?_,?_,?_;·rw[<-u];have e2:((r.high:Int)-1+((i:Nat):Int)*(-1))=((y:Nat):Int):=P;show[V.str (DO (Ak b) (some (13*((r.high:Int)-1+((i:Nat):Int)*(-1)))) (some (13*((r.high:Int)-1+((i:Nat):Int)*(-1))+(r.wide:Int))))]=_;rw[e2]
  ·rw[zO];lia
  ·intro c hc;have hm:c∈b:=List.mem_of_mem_drop (wc hc);obtain⟨j,hj,e⟩:=w_.mp hm;have:=B.sign j ∅;rw[z5,z4 hj,e]at this;exact this
  ·have eR:rowLine 0 (((b.drop (13*y)).take r.wide).map D5)=R i:=by rw[ju Z B f I,<-A]
   rw[eR];exists l,_,_,rfl,rfl,g,?_;·rw[z3,yj];exact zF (show i<169 by lia) BN
   ·exists _,rfl,Bu s L;rw[Aa,yg,zu];rfl
 ·rintro x H' ⟨z,rfl,s,g⟩;have o:∀n,(((List.range n).map fun j=>Cb (R j)).map (·.length)).sum<=41*n:=by
   intro n;induction n with
   |zero=>simp
   |succ n ih=>
    rw[yg,zu,zu,List.sum_append];have:=m n;have O:(((([n]:List Nat).map fun j=>Cb (R j))).map (·.length)).sum=(R n).length:=by simp[DY]
    rw[O];lia
  have J:=o r.high;have a1:(Txt.join ("/":Str) ((List.range r.high).map fun j=>Cb (R j))).length<=41*13+13:=by obtain⟨n,hn⟩:∃n,r.high=n+1:=⟨r.high-1,∅⟩;rw[hn,join_rows n R,B3,z3];have:=M3 R m (n+1);lia
  obtain⟨q,C,w⟩:∃q:Str,([V.str "h",V.str "k"]:List V)[f]?=some (.str q)/\q=Ak [if f=0 then 104 else 107]:=by match f,t with|0,_=>exact⟨"h",rfl,rfl⟩ |1,_=>exact⟨"k",rfl,rfl⟩
  exists rfl,_,rfl,_,l,(List.range r.high).map fun j=>Cb (R j),rfl,rfl,.inl (.of (by rw[g,zG];rfl)),?_;·rw[z3,yj];show _+r.high*1<=_;lia
  ·exists _,_,rfl,rfl,?_,_,rfl,p,_,_,V.int (f:Nat),rfl,rfl,.of (s _ _ K),rfl,T,_,_,V.str q,rfl,rfl,W.sq _,AM C,_,_,rfl,rfl,?_;·show _+1<=sizeLine;have:(600:Nat)<=sizeLine:=⋯;lia
   ·rw[R1,w,B3];show _+1+1<=sizeLine;have:(600:Nat)<=sizeLine:=⋯;lia
   ·have:=fN (r:=r) Z (b:=b) t q w;have e:Txt.join ("/":Str) ((List.range r.high).map fun j=>Cb (R j))++(" ":Str)++q=Cb (r.line (Aq b f)):=this;rw[e];exact k H' s
inductive Mc(C CL:Addr):_|mk(a:Addr)(x:Str)(b:Bytes)(r:Rules):vs=[.ref a,.str x]->Bf C H a r->Tx x b->(match r.readLine b with| .ok p=>∀H' t q,Ap H H'->H t=none->Dd H' t q.1 q.2->Cu r q->pB q=p->Q (.ref t) H'| .error f=>Ref CL [-5,(f.1:Nat),(f.2:Nat)] H E)->Mc C CL vs H Q E
def lr(CA:Addr)(r:Rules)(b:Bytes)(H:Hp):XK:=fun v d c=>v= .ref CA/\∃p a,r.readLine b= .error (1,p)/\d=some a/\c a=some (.xd [("place",.int (p:Nat))])/\Ap H c
theorem ek(v:UInt8):∀l:Bytes,shl [v] l=if l.head?=some v then 1 else 0
|[]=>rfl
|u::l=>by
 show(if v=u then shl [] l+1 else 0)=_;by_cases h:v=u;·rw[zc h,zc (by rw[h];rfl)];rfl
 ·rw[zb h,zb (fun z:(u::l).head?=some v=>h (zt z).symm)]
theorem ej{b:Bytes}{q:Nat}:J8 ⟨b.drop q,q⟩=match([[104],[107]]:List Bytes).findIdx? (E7 (b.drop q))with|some i=> .ok (i,⟨b.drop (q+1),q+1⟩) |none=> .error q:=by
 have e:∀v:UInt8,E7 (b.drop q) [v]=decide (b[q]?=some v):=fun v=>by
  unfold E7;rw[ek,tI,y3];by_cases h:b[q]?=some v;·rw[zc h];simp[h]
  ·rw[zb h];simp[h]
 unfold J8;rw[CZ,Ef,wF,wF,e,e];by_cases h1:b[q]?=some 104;·rw[zc h1,zj h1];rfl
 ·rw[zb h1,zo h1];by_cases h2:b[q]?=some 107;·rw[zc h2,zj h2];rfl
  ·rw[zb h2,zo h2];rfl
theorem X6{b:Bytes}{q:Nat}(h:([[104],[107]]:List Bytes).findIdx? (E7 (b.drop q))=none):most (([[104],[107]]:List Bytes).map fun a=>shl a (b.drop q))=0:=by
 rw[wx]at h;refine HM.JL _ fun x d=>?_;obtain⟨a,c,rfl⟩:=zk.mp d;have:=h a c;unfold E7 at this;rw[yY]at this;have e:a.length=1:=by
  rcases zw.mp c with rfl|c;·rfl
  ·rw[zB.mp c];rfl
 have:=U3 a (b.drop q);lia
abbrev pN:List Str:=["hall","line","reader","written","turn","e","cells","piece","place"]
theorem KY:Ah pN ["hall","line"] (Ad GF):={}
theorem Ja(f:AY):pk 6 "read_line" ["hall","line"] (Mc aH aL):=by
 obtain⟨aT,mT,kT⟩:=f.turns;refine f.TK.has fun F=>F.Ju KY fun H Q E hr h hx=>?_;obtain⟨a,x,b,r,rfl,hA,tx,k⟩:=h;obtain⟨dh,lb,bs,ha,d3,d5,d4⟩:=hA.ex;obtain⟨fF,d7,MF,TF,mF,bF,c5⟩:=id (C9 f);have a5:AV 4 _:=hr.mono ⋯;have L:AV 3 _:=hr.mono ⋯;have a6:AV 2 _:=hr.mono ⋯;exists%[An (i:=2) KY.nd (IJ (Po f) a6 rfl f.Tp Ar (#v[pv 1])),UO (c:=true) (E:=lr aA r b H) (E':=E) (i:=5) (tb:=LR (Ry (Kr (PY aR aA) [] (lr aA r b H) (Bc (Bi 2) (Bc (Uz K (Bi 0) "wide") (Bc (Uz K (Bi 0) "high") B_)))) (E6 3)) (LR (Rx (DF aR "take" (J0 aR aA) [] (lr aA r b H) (Bi 2) (Bc (tC (.str " ")) B_))) (LR (gQ K (Ry (DF aR "choose" (EH K aR aA) [] (lr aA r b H) (Bi 2) (Bc (tC (.ref aT)) B_)) (E6 4))) (Rx (DF aR "take_end" (G7 aR aA) [] (lr aA r b H) (Bi 2) B_))))) (ts:=fun a=>PU a aL (Fm K (-5)) E (Bc (tC (.int 1)) (Bc (VT K (Bi 5) "place") B_))) ⟨rfl,rfl⟩ KY.nd rfl rfl rfl f.fJ (mY f) (fun pn xe T'=>by exact(%[An (i:=3) KY.nd (Ay (Yy f) hr rfl T'.passes (#v[pv 2,Al (pv 0),Al (pv 0)])),A2 (AG (Cm f) (pv 2) f.rt.cl a5 T'.passes (#v[Ai])),Qj (An (i:=4) KY.nd (AG (Nh f) (pv 2) f.rt.cl L T'.passes (#v[AB (v:= .ref aT) rfl mT rfl]))) |A2 (AS (KD f) (pv 2) f.rt.cl L T'.passes)])) hx (fun a xe T'=>by exact Ag (OQ MF c5 (L.h.mark _) rfl mF bF rfl T' (#v[Ae,Qm (pv 5) rfl]))),An (i:=6) KY.nd (Ay (SY f) a6 rfl Ar (#v[F_ (g:=cw K 2 (KL (E6 7) (KL (E6 8) gd))) (te:=Bi 7) (own:=[("piece",7),("place",8)]) rfl KY.nd (BL (pv 3)) (Dm (N0:=pN) (sc0:=Ad GF) rfl rfl ∎) (fun Y Y Y Y Y=>Di rfl (AR (Aw (i:=7) KY.nd) (AR (Aw (i:=8) KY.nd) Cp))) (fun Y Y Y Y Y=>Cg) (fun Y Y Y Y Y=>pv 7),Al (pv 0),Al (pv 0),Ai])),A2 (Ay (NU f) a5 rfl hx.weak.passes (#v[pv 0,pv 6,F_ (g:=cw K 2 (KL (E6 7) (KL (E6 8) gd))) (te:=Bi 8) (own:=[("piece",7),("place",8)]) rfl KY.nd (BL (pv 3)) (Dm (N0:=pN) (sc0:=Ad GF) rfl rfl ∎) (fun Y Y Y Y Y=>Di rfl (AR (Aw (i:=7) KY.nd) (AR (Aw (i:=8) KY.nd) Cp))) (fun Y Y Y Y Y=>Cg) (fun Y Y Y Y Y=>pv 8)])) |Aj (B2 (#v[pv 6,pv 4]))];have Z:=hA.Z;have w5:=Z.w5;have I:=Z.KR;have h5:=Z.h5;have O:=Z.Vt;refine⟨_,rfl,fun e dx ne c8 d2=>?_⟩;have s0:Ap H (Av (Av H dx (.own e)) e (.ins aR dx [])):=fun b' o z=>by rw[Ac (Ab z ne),Ac (Ab z c8)];exact z
 refine⟨H,e,x,rfl,⟨dx,Aa⟩,s0,ne,fun H1 c3 s1=>⟨rfl,?_⟩⟩;have sb:∀{H':Hp},DA e H1 H'->Ap H H':=fun P b' o z=>P b' o (s1 b' o z) (Ab z ne);have n:r.readLine b=match RR r.wide r.high b with| .error p=> .error (1,p) | .ok (l,a2,c)=>if c.rest≠[]then .error (1,c.at_)else match l.find? fun(x:Piece×Nat×Nat)=>!mayStand x.1 (r.kindAt x.2.1)with|some x=> .error (2,x.2.2) |none=> .ok ⟨setFrom (l.filterMap fun(x:Piece×Nat×Nat)=>if x.1= .hunter then some x.2.1 else none),setFrom (l.filterMap fun(x:Piece×Nat×Nat)=>if x.1= .man then some x.2.1 else none),((l.find? fun(x:Piece×Nat×Nat)=>x.1== .king).map fun(x:Piece×Nat×Nat)=>x.2.1).getD TAKEN,a2⟩:=rfl;have b8:∀{H':Hp}{p:Nat},r.readLine b= .error (1,p)->DA e H1 H'->gM aA p H' (lr aA r b H):=fun hl P H' d e1 sm=>⟨rfl,_,d,hl,rfl,e1,(sb P).trans sm⟩;refine Ax ?_;cbv;refine⟨⟨_,rfl,_,rfl,a,aH,dh,_,_,rfl,s1 _ _ ha,f.hc.cl,f.hc.O_,IX r lb,_,rfl,a,aH,dh,_,_,rfl,s1 _ _ ha,f.hc.cl,f.hc.Pa,IY r lb,e,x,b,r.wide,r.high,rfl,c3,tx,∅,I,∅,O,fun p hp H' d e1 P=>?_,?_⟩,?_⟩;·exact⟨rfl,p,d,by rw[n,hp],rfl,e1,sb P⟩
 ·intro H2 l S m p fu c2 d1 b7 nl c6 hl c4 X W w;rw[HM.ah]at w;refine Ax ?_;cbv;obtain⟨b4,N⟩:=c2;exists _,rfl,e,b4,_,rfl,N,C4 _ _,e,x,_,b,[32],p,rfl,⟨b4,N⟩,tx,⟨∎,∎⟩,by simp,(by show 1<=1000;decide);cases hL:lit [32] ⟨b.drop p,p⟩with
  |error p1=>rw[hL]at w;exact fun H' d e1 P=>⟨rfl,p1,d,by rw[n,w];rfl,rfl,e1,sb (b7.trans P)⟩
  |ok c1=>
   rw[hL]at w;replace w:RR r.wide r.high b=(J8 c1).bind fun s=> .ok (Jt r.wide r.high 0 m,s.1,s.2):=w;intro H3 c0 u b6;obtain⟨r1,q⟩:=c1;replace u:r1=b.drop q:=u;subst u;obtain⟨b3,M⟩:=c0;have D:=b7.trans b6;intro kh;have c7:e≠aT:=fun z=>by obtain⟨o,Y,Y,hk,Y⟩:=kT;have:=kh aT o hk;rw[<-z,M]at this;cases this
   exists _,rfl,e,b3,_,rfl,M,C4 _ _,e,aT,x,["h","k"],b,[[104],[107]],q,rfl,⟨b3,M⟩,tx,kT.sq _,c7,.cons ⟨∎,∎⟩ (.cons ⟨∎,∎⟩ .nil),⋯,⋯,⋯;rw[ej]at w;cases hS:([[104],[107]]:List Bytes).findIdx? (E7 (b.drop q))with
   |none=>rw[hS]at w;show gM aA (q+most _) H3 _;rw[X6 hS,uf];exact b8 (by rw[n,w];rfl) D
   |some i=>
    rw[hS]at w;replace w:RR r.wide r.high b= .ok (Jt r.wide r.high 0 m,i,⟨b.drop (q+1),q+1⟩):=w;have hi:i<=1:=by rw[yL]at hS;obtain⟨hi,Y⟩:=hS;have:i<2:=hi;lia
    intro H4 a3 b5;have el:(([[104],[107]]:List Bytes).getD i []).length=1:=by match i,hi with|0,_=>rfl|1,_=>rfl
    rw[el]at a3;obtain⟨b2,a7⟩:=a3;have C:=D.trans b5;rw[w]at n;dsimp only at n;refine Ax ?_;cbv;exists _,rfl,e,b2,_,rfl,a7,C4 _ _,e,x,q+1,rfl,⟨b2,a7⟩,tx.line;rw[tx.len];by_cases hend:q+1<b.length;·rw[zc hend];refine b8 ?_ C;rw[n,zc];intro z;have:=zT List.length z;rw[yI]at this;simp at this;lia
    ·rw[zb hend];rw[zb (by rw[yN ∅];exact fun z=>z rfl),cB Z X W]at n;have B:=b6.trans b5;have s4:=sb C;have A:=B _ _ hl c6;have G:Paired (Q_ H4) S m:=Am (fun t z R=>B _ _ R fun q=>by have a1:H2 t=some _:=R;rw[q,N]at a1;cases a1) c4;have b1:=zE G;have d6:r.wide*r.high<=169:=uw I O;have b9:(169:Nat)<sizeLine:=⋯;refine⟨_,rfl,l,rfl,⟨_,AI.of A⟩,fun D1 b0=>?_⟩;refine C_ (xs:=S.map V.ref) (Xl H4 D1 fun i=>((m.take i).map (·.1)).map Z9) (IV b0 rfl) (fun i H' Y q=>AI.of (q.1 _ _ A)) ?_ ?_
     ·rintro j v H' hj qj;obtain⟨t,U,rfl⟩:∃t,S[j]?=some t/\v= .ref t:=by rw[z7,zy]at hj;obtain⟨c,e,rfl⟩:=hj;exact⟨c,e,rfl⟩
      obtain⟨z,hz,R⟩:=AA G U;exists t,_,rfl,.of (qj.1 _ _ R),rfl,_,_,rfl,_,_,rfl,rfl,rfl;unfold HF;cbv;rw[zc rfl];refine⟨_,rfl,Gn b0 qj ?_ (AQ _) ?_⟩;·rw[z3,z3,zO];lia
      ·rw[vy,hz,zu,zu];rfl
     ·rintro H5 J;rw[z3,b1]at J;replace J:Ap H4 H5/\H5 D1=some (.lst ((m.map (·.1)).map Z9)):=⟨J.1,by have:=J.2;dsimp only at this;rw[y1]at this;exact this⟩;have s5:=s4.trans J.1;refine⟨_,rfl,a,aH,dh,_,_,rfl,s5 _ _ ha,f.hc.cl,f.hc.O_,IX r lb,_,rfl,a,aH,dh,_,_,rfl,s5 _ _ ha,f.hc.cl,f.hc.Pa,IY r lb,D1,m.map (·.1),r.wide,r.high,46,rfl,J.2,by rw[z3];exact X,∅,I,∅,O,fun H6 zz s6 c9=>?_⟩;have ez:zz=Ak (VH r m):=Dx c9;subst ez;refine Ax ?_;cbv;have y:=J.1.trans s6;refine⟨_,rfl,_,rfl,_,rfl,l,rfl,⟨_,AI.of (y _ _ A)⟩,fun D2 a9=>?_⟩;refine C_ (xs:=S.map V.ref) (Xl H6 D2 fun i=>nV ((m.take i).map (·.2))) (IV a9 rfl) (fun i H' Y q=>AI.of (q.1 _ _ (y _ _ A))) ?_ ?_
      ·rintro j v H' hj qj;obtain⟨t,U,rfl⟩:∃t,S[j]?=some t/\v= .ref t:=by rw[z7,zy]at hj;obtain⟨c,e,rfl⟩:=hj;exact⟨c,e,rfl⟩
       obtain⟨z,hz,R⟩:=AA G U;exists t,_,rfl,.of (qj.1 _ _ (y _ _ R)),rfl,_,_,rfl,_,_,rfl,rfl,rfl;unfold HF;cbv;rw[zc rfl];refine⟨_,rfl,Gn a9 qj ?_ (AQ _) ?_⟩;·unfold nV;rw[z3,z3,zO];lia
       ·unfold nV;rw[vy,hz,zu,zu];rfl
      ·rintro H7 T;rw[z3,b1]at T;replace T:Ap H6 H7/\H7 D2=some (.lst (nV (m.map (·.2)))):=⟨T.1,by have:=T.2;dsimp only at this;rw[y1]at this;exact this⟩;have s7:Ap H H7:=(s4.trans y).trans T.1;refine⟨a,D2,r,VH r m,m.map (·.2),rfl,hA.same s7,cZ,T.2,by rw[z3];exact X,?_⟩;rw[n]at k;cases hm:(List.range (r.wide*r.high)).find? (MM r (VH r m))with
       |some o=>
        rw[hm]at k;replace k:Ref aL [-5,2,(((m.getD o (0,0)).2:Nat):Int)] H E:=k;have eo:(m.map (·.2)).getD o 0=(m.getD o (0,0)).2:=by rw[z5,z5,z7];cases m[o]?<;>rfl
        show Ref aL [-5,2,(((m.map (·.2)).getD o 0:Nat):Int)] H7 E;rw[eo];exact k.same s7
       |none=>rw[hm]at k;replace k:=k;intro H8 s8;refine⟨_,rfl,_,rfl,K0,fun t U=>?_⟩;have s9:=s7.trans s8;exact k _ t (VH r m,i) (s9.trans (Af U)) (s9.free U) Aa ⟨N2 Z X W,cY Z X W hm,hi⟩ (jz Z X W i).symm
 ·rintro a0 C1 d H2 ⟨ec,p,d0,hg,rfl,a8,s2⟩ a4;cases ec;exists f.lH,_,rfl,true,a0,aA,d0,[("place",.int (p:Nat))],_,rfl,Aa,f.pz,?_,xW;·rw[Ac (Ab a8 a4)];exact a8
  ·rw[hg]at k;exact P2 (C9 f) k s2 a4
def QG(a:Addr)(p:Nat):List (Str×V):=[("handed",.ref a),("at",.int (p:Nat))]
theorem Kd(a p):(QG a p).lookup ("handed":Str)=some (.ref a):=#v[]
theorem P1(a p):(QG a p).lookup ("at":Str)=some (.int (p:Nat)):=#v[]
theorem gf(a p):(QG a p).lookup ("has_more":Str)=none:=#v[]
theorem Tt(a p):(QG a p).lookup ("take_whole":Str)=none:=#v[]
theorem cC(a p):(QG a p).lookup ("take_row":Str)=none:=#v[]
theorem W_(a p):(QG a p).lookup ("take_text":Str)=none:=#v[]
theorem cD(a p q):Bx "at" (V.int (q:Nat)) (QG a p)=QG a q:=#v[]
def Eo(K:Frag)(C:Addr)(H:Hp)(f a:Addr)(ns:List Int)(p:Nat):Prop:=(∃b,H f=some (.ins C b (QG a p)))/\AI K H a (ns.map V.int)/\f≠a/\ns.length<=30000
inductive Z2(K:Frag)(C:Addr):_|mk(f la ns p:_):vs=[.ref f]->Eo K C H f la ns p->Q (.bl (decide (p<ns.length))) H->Z2 K C vs H Q E
inductive PX(K:Frag)(C:Addr):_|mk(f la ns p z:_):vs=[.ref f]->Eo K C H f la ns p->ns[p]?=some z->(∀H',Eo K C H' f la ns (p+1)->DA f H H'->Q (.int z) H')->PX K C vs H Q E
inductive Z1(K:Frag)(C:Addr):_|mk(f la ns p:_)(n:Nat):vs=[.ref f]->Eo K C H f la ns p->ns[p]?=some (n:Int)->p+1+n<=ns.length->(∀H' l,Eo K C H' f la ns (p+1+n)->DA f H H'->H l=none->H' l=some (.lst (((ns.drop (p+1)).take n).map V.int))->Q (.ref l) H')->Z1 K C vs H Q E
inductive U0(K:Frag)(C:Addr):_|mk(f la ns p:_)(b:Bytes):vs=[.ref f]->Eo K C H f la ns p->ns[p]?=some (b.length:Int)->p+1+b.length<=ns.length->((ns.drop (p+1)).take b.length=b.map (fun u=>(u.toNat:Int))/\∀H' x,Eo K C H' f la ns (p+1+b.length)->DA f H H'->Tx x b->Q (.str x) H')->U0 K C vs H Q E
inductive O7:_|mk(l:Addr)(ns:List Int):vs=[.ref l]->H l=some (.lst (ns.map V.int))->ns.length<=30000->(∀H' l',Ap H H'->H l'=none->H' l'=some (.lst (((ns.length:Int)::ns).map V.int))->Q (.ref l') H')->O7 vs H Q E
theorem AI.but{g:Addr}(e:DA a H H')(n:g≠a)(h:AI K H g xs):AI K H' g xs:=by
 rcases h with(h|⟨o,h⟩) |h;·exact .inl (.inl (e _ _ h n))
 ·exact .inl (.inr ⟨o,e _ _ h n⟩)
 ·exact .inr h
theorem cT{j:Nat}(b:i<=xs.length)(a:j<=xs.length):QP xs (some (i:Int)) (some (j:Int))=(xs.drop i).take (j-i):=by unfold QP;rw[HT.Fn,HT.Fn,xf b,xf a]
theorem oA:Ah ["self"] ["self"] (Ad ZX):={}
theorem cg(a:AY):bY 1 aF "has_more" ["self"] (Z2 K aF):=by
 refine a.MS.has fun F=>F.ok oA fun H Q E j h=>?_;obtain⟨f,b,ns,p,rfl,⟨⟨g,d⟩,c,i,l⟩,k⟩:=h;exists Ag (Aj (Bn FA (Al (pv 0)) (AN AU a.D6 y8 (#v[Al (pv 0)]))));exists _,rfl,f,aF,g,_,_,rfl,d,a.fc.cl,a.fc.nA,P1 b p,_,rfl,f,aF,g,_,_,rfl,d,a.fc.cl,a.fc.nH,Kd b p,b,_,rfl,.inl c,_,_,rfl,rfl;have e:decide (((p:Nat):Int)<(((ns.map V.int).length:Nat):Int))=decide (p<ns.length):=by rw[z3,y3];lia
 cbv;rw[e];exact k
theorem lX:Ah ["self","number"] ["self"] (Ad Ww):={}
theorem Dk(c:AY):bY 1 aF "take_whole" ["self"] (PX K aF):=by
 refine c.JN.has fun F=>F.ok lX fun H Q E t h=>?_;obtain⟨f,a,ns,p,z,rfl,⟨⟨d,j⟩,g,l,r⟩,q,k⟩:=h;exists%[An (i:=1) lX.nd (Az AD (Al (pv 0)) (Al (pv 0))),DR (pv 0) Ae JV|Aj (pv 1)];exists _,rfl,f,aF,d,_,_,rfl,j,c.fc.cl,c.fc.nH,Kd a p,_,rfl,f,aF,d,_,_,rfl,j,c.fc.cl,c.fc.nA,P1 a p,a,_,_,V.int z,rfl,rfl,g,AM (by rw[z7,q];rfl),_,rfl,f,aF,d,_,_,rfl,j,c.fc.cl,c.fc.nA,P1 a p,p,1,rfl,rfl,d,_,j,(by show 2<1000;decide),_,rfl;have e:Bx "at" (V.int ((p:Int)+1)) (QG a p)=QG a (p+1):=cD a p (p+1);have m:DA f H (Av H f (.ins aF d (Bx "at" (V.int ((p:Int)+1)) (QG a p)))):=fun b o s n=>by rw[Ac n];exact s
 exact k _ ⟨⟨d,by rw[Aa,e]⟩,AI.but m (zN l) g,l,r⟩ m
theorem jm:Ah ["self","length","row"] ["self"] (Ad gZ):={}
theorem WU(g:AY):bY 2 aF "take_row" ["self"] (Z1 K aF):=by
 refine g.MR.has fun F=>F.ok jm fun H Q E D h=>?_;obtain⟨f,d,ns,p,n,rfl,B,C,J,k⟩:=h;obtain⟨⟨N,L⟩,v,z,I⟩:=id B;exists%[An (i:=1) jm.nd (AS (Dk g) (pv 0) g.fc.cl D Ar),An (i:=2) jm.nd (D3 dZ (Al (pv 0)) (CW (Al (pv 0))) (CW (A9 Ce (Al (pv 0)) (pv 1)))),DR (pv 0) (pv 1) JV|Aj (pv 2)];refine⟨_,rfl,f,N,_,rfl,L,Tt d p,f,d,ns,p,_,rfl,B,C,fun y x t=>?_⟩;obtain⟨⟨a,c⟩,q,Y,Y⟩:=id x;refine⟨_,rfl,f,aF,a,_,_,rfl,c,g.fc.cl,g.fc.nH,Kd d (p+1),_,rfl,f,aF,a,_,_,rfl,c,g.fc.cl,g.fc.nA,P1 d (p+1),_,rfl,_,rfl,f,aF,a,_,_,rfl,c,g.fc.cl,g.fc.nA,P1 d (p+1),_,rfl,_,_,rfl,rfl,_,rfl,d,_,rfl,q,fun l w=>?_⟩;have r:QP (ns.map V.int) (some (((p+1:Nat):Int))) (some (((p+1:Nat):Int)+((n:Nat):Int)))=((ns.drop (p+1)).take n).map V.int:=by have:=cT (xs:=ns.map V.int) (i:=p+1) (j:=p+1+n) (by rw[z3];lia) (by rw[z3];lia);rw[show p+1+n-(p+1)=n by lia]at this;rw[vJ,vK,<-this];rfl
 have u:Ap y (Av y l (.lst (QP (ns.map V.int) (some (((p+1:Nat):Int))) (some (((p+1:Nat):Int)+((n:Nat):Int)))))):=Af w;have m:f≠l:=Ab c w;exists _,rfl,f,aF,a,_,_,rfl,u _ _ c,g.fc.cl,g.fc.nA,P1 d (p+1),_,rfl,_,_,rfl,rfl,a,_,u _ _ c,(by show 2<1000;decide),_,rfl;have e:Bx "at" (V.int (((p+1:Nat):Int)+((n:Nat):Int))) (QG d (p+1))=QG d (p+1+n):=cD d (p+1) (p+1+n);have s:DA f H (Av (Av y l (.lst (QP (ns.map V.int) (some (((p+1:Nat):Int))) (some (((p+1:Nat):Int)+((n:Nat):Int)))))) f (.ins aF a (Bx "at" (V.int (((p+1:Nat):Int)+((n:Nat):Int))) (QG d (p+1))))):=fun b o M A=>by rw[Ac A];exact u _ _ (t b o M A)
 refine k _ l ⟨⟨a,by rw[Aa,e]⟩,AI.but s (zN z) v,z,I⟩ s ?_ ?_;·cases G:H l with|none=>rfl|some o=>have:=t l o G (zN m);rw[w]at this;cases this
 ·rw[Ac (zN m),Aa,r]
theorem o9:Ah ["self"] ["self"] (Ad ZW):={}
theorem IZ(d:AY):bY 3 aF "take_text" ["self"] (U0 K aF):=by refine d.Lb.has fun F=>F.ok o9 fun H Q E s h=>?_;obtain⟨f,g,ns,p,b,rfl,t,w,i,m,k⟩:=h;obtain⟨⟨D,B⟩,A,u,z⟩:=id t;exists Ag (Aj (Ay (Vn d) s rfl Ar (#v[AS (WU d) (pv 0) d.fc.cl s Ar])));refine⟨_,rfl,f,D,_,rfl,B,W_ g p|>fun Y=>cC g p,f,g,ns,p,b.length,rfl,t,w,i,fun J l n r I c=>?_⟩;rw[m]at c;refine⟨l,b,rfl,AI.of (by rw[c,zG];rfl),∅,fun G x e y=>?_⟩;obtain⟨⟨q,j⟩,a,Y,Y⟩:=n;exact k G x ⟨⟨q,e _ _ j⟩,e.seq a,u,z⟩ (fun b o C v=>e _ _ (r b o C v)) y
theorem oG:Ah ["row"] ["row"] (Ad RS):={}
theorem E1(e:AY):FJ 1 "counted" ["row"] O7:=by
 refine e.YI.has fun F=>F.ok oG fun H Q E i h=>?_;obtain⟨l,ns,rfl,d,j,k⟩:=h;exists Ag (Aj (A9 Ed (AE (#v[AN AU e.D6 y8 (#v[pv 0])])) (pv 0)));refine⟨_,rfl,l,_,rfl,.inl (AI.of d),Js,fun g c=>?_⟩;have b:=Af (o:= .lst [V.int ((ns.map V.int).length:Nat)]) c;refine⟨_,rfl,g,l,_,_,rfl,rfl,Aa,b _ _ d,?_,fun f a=>?_⟩;·rw[z3];show 1+ns.length<=sizeLine;have:(30001:Nat)<=sizeLine:=⋯;lia
 ·refine k _ f (b.trans (Af a)) (b.free a) ?_;rw[Aa,z3];rfl
theorem oB:Ah ["self","numbers"] ["self","numbers"] (Ad ZY):={}
def Hz(b c d a:Addr):List (Str×V):=[("positions",.ref b),("numbers",.ref c),("follows",.ref d),("worth",.ref a)]
structure Df(C:Addr)(H:Hp)(e:Addr)(r:Rules)(ps:List Bd)(fs:List (List Nat)):Prop where
 ex:∃dx pl nd fl wl,H e=some (.ins C dx (Hz pl nd fl wl))/\gD H pl ps/\H nd=some (.dT (IW ps))/\(∃gs,gI H fl pl gs fs)/\kN H wl (r.values (ps.map pB))
 g:EA r ps fs
 fx:Xn (Cc ps) fs (BA r ps) (r.values (ps.map pB))
inductive RB(C CE CT:Addr):_|mk(H0:Hp)(e a t:Addr)(r:Rules)(q:Bd)(most:Nat):vs=[.ref e,.ref a,.ref t,.int most]->(∃dx,H e=some (.ins CE dx []))->Ap H0 H->H0 e=none->Bf C H0 a r->Dd H0 t q.1 q.2->Cu r q->1<=most->most<=200->(match graphOf r most (pB q)with|none=>Ref CT [-9] H0 E|some g=>∀H' ps fs,Df CE H' e r ps fs->ps.map pB=g->Ap H0 H'->Q .Bz H')->RB C CE CT vs H Q E
structure Part(r:Rules)(most:Nat)(ps:List Bd)(fs:List (List Nat)):Prop where
 good:∀q∈ps,Cu r q
 nd:ps.Nodup
 len:fs.length<=ps.length
 small:ps.length<=most
 Ze:∀i q,i<fs.length->ps[i]?=some q->fs.getD i []=(Bj r q).map ps.idxOf
 jR:∀i q,i<fs.length->ps[i]?=some q->∀p∈Bj r q,p∈ps
theorem Part.step{r:Rules}(Z:B0 r)(N:Of r){d:Nat}{b:List Bd}{f:List (List Nat)}(h:Part r d b f){q:Bd}(m:b[f.length]?=some q)(t:(B9 b (Bj r q)).length<=d):Part r d (B9 b (Bj r q)) (f++[(Bj r q).map (B9 b (Bj r q)).idxOf]):=by
 obtain⟨e,s⟩:=Jp (Bj r q) b;have n:q∈b:=zf m;have g:∀i p,b[i]?=some p->(B9 b (Bj r q))[i]?=some p:=fun i p a=>by rw[s,yr (z8.mp a).1];exact a
 have u:f.length<b.length:=(z8.mp m).1;refine⟨fun p a=>?_,HZ _ _ h.nd,?_,t,fun i p l a=>?_,fun i p l a=>?_⟩
 ·rcases(Fh _ _ _).mp a with a|a;·exact h.good p a
  ·exact OZ Z N (h.good q n) p a
 ·rw[zd];have:=KQ (Bj r q) b;show f.length+1<=_;lia
 ·rw[zd]at l;have o:i<f.length+1:=l;by_cases hlt:i<f.length;·obtain⟨j,c⟩:∃j,b[i]?=some j:=⟨_,z4 ∅⟩;have:=g i j c;rw[a]at this;cases this;rw[z5,yr hlt,<-z5,h.Ze i p hlt c];refine y6 fun x k=>?_;rw[s];exact(WR (h.jR i p hlt c x k) e).symm
  ·have:i=f.length:=∅;subst this;have:=g _ q m;rw[a]at this;cases this;rw[z5,yC (ze _),uS];rfl
 ·rw[zd]at l;have o:i<f.length+1:=l;by_cases hlt:i<f.length;·obtain⟨j,c⟩:∃j,b[i]?=some j:=⟨_,z4 ∅⟩;have:=g i j c;rw[a]at this;cases this;intro x k;exact(Fh _ _ _).mpr (.inl (h.jR i p hlt c x k))
  ·have:i=f.length:=∅;subst this;have:=g _ q m;rw[a]at this;cases this;intro x k;exact(Fh _ _ _).mpr (.inr k)
theorem Part.graph{r:Rules}(Z:B0 r)(N:Of r){a:Nat}(j:a<=200){c:List Bd}{e:List (List Nat)}(h:Part r a c e)(k:¬e.length<c.length):EA r c e:=by
 have b:e.length=c.length:=by have:=h.len;lia
 refine⟨Z,N,h.good,h.nd,b,z_ h.small j,fun i q d=>h.Ze i q (by rw[b];exact(z8.mp d).1) d,fun q d p g=>?_⟩;obtain⟨i,f⟩:=yJ d;exact h.jR i q (by rw[b];exact(z8.mp f).1) f p g
theorem Y3{r:Rules}(Z:B0 r)(N:Of r){a f:Nat}{b:List Bd}{q:Bd}(e:∀q∈b,Cu r q)(d:b[i]?=some q):growTo r a (f+1) i (b.map pB)=if a<(B9 b (Bj r q)).length then none else growTo r a f (i+1) ((B9 b (Bj r q)).map pB):=by rw[growTo,z7,d];have c:=e q (zf d);show(if a<(addNew (b.map pB) (r.comesTo (pB q))).length then _ else _)=_;rw[Ny Z N c,Kq _ _ e (OZ Z N c),z3]
abbrev u6:List Str:=["self","hall","first","most"]
theorem oE:Ah u6 ["self","hall","first","most"] (Ad RO):={}
theorem Tf(v:AY):qT 7 aE ["self","hall","first","most"] (RB aH aE aT):=by
 refine v.bW.has fun F=>F.Ju oE fun H Q E hr h hx=>?_;obtain⟨K,e,a,t,r,q,d,rfl,⟨w,he⟩,Z,N,W,ht,hq,c1,b4,k⟩:=h;have hu:=Gq hr;exists%[B1 (pv 0) (AE (#v[pv 2])),B1 (pv 0) (XM (rN hu) (pv 2) Ae),B1 (pv 0) (AE Cd),CU Br (Ao FA (AN AU v.D6 y8 (#v[Al (pv 0)])) (AN AU v.D6 y8 (#v[Al (pv 0)]))) (Ag (A2 (AG (Vs v) (pv 0) v.ec.cl hr hx.passes (#v[pv 1,Az AD (Al (pv 0)) (AN AU v.D6 y8 (#v[Al (pv 0)])),pv 3])))) |B1 (pv 0) (Ay (Vm v) (hr.mono ⋯) rfl Ar (#v[pv 1,Al (pv 0),Al (pv 0)]))];refine⟨_,rfl,Js,fun c a5=>?_⟩;have D:e≠c:=Ab he a5;exists _,rfl,e,aE,w,_,rfl,by rw[Ac D];exact he,v.ec.cl,v.ec.nP,(by show 0<1000;decide);have c5:∀{l:Addr}{Hx:Hp},Ap K Hx->Hx l=none->K l=none:=fun s h=>s.free h;have ep:Bx "positions" (V.ref c) []=[(("positions":Str),V.ref c)]:=rfl;have sA:Ap K (Av (Av H c (.lst [.ref t])) e (.ins aE w (Bx "positions" (V.ref c) []))):=fun b o z=>by rw[Ac (Ab z N),Ac (Ab (Z _ _ z) a5)];exact Z _ _ z
 have eA:(Av (Av H c (.lst [.ref t])) e (.ins aE w (Bx "positions" (V.ref c) []))) e=some (.ins aE w [("positions",.ref c)]):=by rw[Aa,ep]
 have pA:(Av (Av H c (.lst [.ref t])) e (.ins aE w (Bx "positions" (V.ref c) []))) c=some (.lst [.ref t]):=by rw[Ac (zN D),Aa]
 have b8:K c=none:=Z.free a5;generalize(Av (Av H c (.lst [.ref t])) e (.ins aE w (Bx "positions" (V.ref c) [])))=HA at sA eA pA|-;refine fun f R=>?_;have I:e≠f:=Ab eA R;have a8:K f=none:=sA.free R;have tB:(Av HA f (.dT [])) t=some (.tup ((EE q).map kV)):=by rw[Ac (Ab (sA _ _ ht) R)];exact sA _ _ ht
 exists _,rfl,Aa,t,EE q,rfl,tB,_,rfl,e,aE,w,_,rfl,by rw[Ac I,Ac I];exact eA,v.ec.cl,v.ec.nN,(by show 1<1000;decide);rw[DH];have en:Bx "numbers" (V.ref f) [(("positions":Str),V.ref c)]=[(("positions":Str),V.ref c),("numbers",V.ref f)]:=#v[];have sB:Ap K (Av (Av HA f (.dT [(EE q,.int 0)])) e (.ins aE w (Bx "numbers" (V.ref f) [(("positions":Str),V.ref c)]))):=fun b o z=>by rw[Ac (Ab z N),Ac (Ab z a8)];exact sA _ _ z
 have eB:(Av (Av HA f (.dT [(EE q,.int 0)])) e (.ins aE w (Bx "numbers" (V.ref f) [(("positions":Str),V.ref c)]))) e=some (.ins aE w [("positions",.ref c),("numbers",.ref f)]):=by rw[Aa,en]
 have a1:(Av (Av HA f (.dT [(EE q,.int 0)])) e (.ins aE w (Bx "numbers" (V.ref f) [(("positions":Str),V.ref c)]))) c=some (.lst [.ref t]):=by rw[Ac (zN D),Ac (Ab pA R)];exact pA
 have nB:(Av (Av HA f (.dT [(EE q,.int 0)])) e (.ins aE w (Bx "numbers" (V.ref f) [(("positions":Str),V.ref c)]))) f=some (.dT [(EE q,.int 0)]):=by rw[Ac (zN I),Aa]
 generalize(Av (Av HA f (.dT [(EE q,.int 0)])) e (.ins aE w (Bx "numbers" (V.ref f) [(("positions":Str),V.ref c)])))=HB at sB eB a1 nB|-;refine⟨zx _,fun u T=>?_⟩;have U:e≠u:=Ab eB T;have a9:K u=none:=sB.free T;have pf:c≠u:=Ab a1 T;exists _,rfl,e,aE,w,_,rfl,by rw[Ac U];exact eB,v.ec.cl,v.ec.nF,(by show 2<1000;decide);have ef:Bx "follows" (V.ref u) [(("positions":Str),V.ref c),("numbers",V.ref f)]=T3 c f u:=#v[];have sC:Ap K (Av (Av HB u (.lst [])) e (.ins aE w (Bx "follows" (V.ref u) [(("positions":Str),V.ref c),("numbers",V.ref f)]))):=fun b o z=>by rw[Ac (Ab z N),Ac (Ab z a9)];exact sB _ _ z
 have GC:dz aE (Av (Av HB u (.lst [])) e (.ins aE w (Bx "follows" (V.ref u) [(("positions":Str),V.ref c),("numbers",V.ref f)]))) e c f u [q] []:=by
  refine⟨⟨w,by rw[Aa,ef]⟩,⟨[t],?_,.cons (sC _ _ ht) .nil⟩,?_,⟨[],by rw[Ac (zN U),Aa];rfl,.nil,fun g hg=>nomatch hg⟩,pf⟩;·rw[Ac (zN D),Ac pf];exact a1
  ·rw[Ac (zN I),Ac (Ab nB T)];exact nB
 generalize(Av (Av HB u (.lst [])) e (.ins aE w (Bx "follows" (V.ref u) [(("positions":Str),V.ref c),("numbers",V.ref f)])))=HC at sC GC|-;have P0:Part r d [q] []:=⟨fun p hp=>by rw[zB.mp hp];exact hq,by simp,zx _,c1,fun i p hi Y=>absurd hi (xc _),fun i p hi Y=>absurd hi (xc _)⟩;exists fun m σ H'=>E2 fun(B:List Bd) (A:List (List Nat))=>A6 (σ=[some (.ref e),some (.ref a),some (.ref t),some (.int (d:Nat))]) (m+A.length=d+1) (Ap K H') (dz aE H' e c f u B A) (Part r d B A) (graphOf r d (pB q)=growTo r d m A.length (B.map pB)),⟨d+1,[q],[],rfl,rfl,sC,GC,P0,rfl⟩;rintro m σ H' ⟨B,A,rfl,c4,sm,GA,Pt,eg⟩;obtain⟨⟨x,y⟩,⟨ts,O,M⟩,b3,⟨gs,S,a0,b6⟩,Y⟩:=id GA;have a2:ts.length=B.length:=zE M;have a3:gs.length=A.length:=zE a0;exists _,rfl,e,aE,x,_,_,rfl,y,v.ec.cl,v.ec.nF,QH c f u,u,_,rfl,.inl (AI.of S),_,rfl,e,aE,x,_,_,rfl,y,v.ec.cl,v.ec.nP,Kf c f u,c,_,rfl,.inl (AI.of O),_,_,rfl,rfl,_,rfl;have l1:=Pt.len;have l2:=Pt.small;by_cases hlt:A.length<B.length
 ·refine BI (zj (by rw[z3,z3,a2,a3];lia)) ?_;obtain⟨m,rfl⟩:∃m',m=m'+1:=⟨m-1,∅⟩;obtain⟨qi,P⟩:∃qi,B[A.length]?=some qi:=⟨_,z4 hlt⟩;obtain⟨ti,b1⟩:∃ti,ts[A.length]?=some ti:=⟨_,z4 (by rw[a2];exact hlt)⟩;obtain⟨q',b2,a4⟩:=AA M b1;rw[P]at b2;cases b2;rw[Y3 W.Z W.N Pt.good P]at eg;exists fun a7 a6=>E2 fun(B:List Bd) (J:List (List Nat))=>A6 (a7=[some (.ref e),some (.ref a),some (.ref t),some (.int (d:Nat))]) (m+J.length=d+1) (Ap K a6) (dz aE a6 e c f u B J) (Part r d B J) (graphOf r d (pB q)=growTo r d m J.length (B.map pB)),?_;·rintro a7 a6 ⟨b7,J,rfl,h1,h2,h3,h4,h5⟩;exact⟨m,yU m,b7,J,rfl,h1,h2,h3,h4,h5⟩
  ·exists _,rfl,e,x,_,rfl,y,Y9 c f u,_,rfl,_,rfl,e,aE,x,_,_,rfl,y,v.ec.cl,v.ec.nP,Kf c f u,_,rfl,e,aE,x,_,_,rfl,y,v.ec.cl,v.ec.nF,QH c f u,u,_,rfl,.inl (AI.of S),c,_,_,V.ref ti,rfl,rfl,AI.of O,at_of (j:=A.length) (by rw[z3,a3]) (by rw[z7,b1];rfl),_,rfl,K,e,a,ti,c,f,u,r,B,A,qi,d,rfl,sm,b8,a8,a9,W,GA,a4,Pt.good qi (zf P),l2,b4,∅;by_cases hover:d<(B9 B (Bj r qi)).length;·rw[zc hover];rw[zc hover]at eg;rw[eg]at k;exact k
   ·rw[zb hover];rw[zb hover]at eg;intro H2 G2 L;exists _,_,rfl,?_,L,G2,Pt.step W.Z W.N P (Nat.not_lt.mp hover);·rw[zd];show m+(A.length+1)=_;lia
    ·rw[zd];exact eg
 ·refine B8 (zo (by rw[z3,z3,a2,a3];lia)) ?_;obtain⟨m,rfl⟩:∃m',m=m'+1:=⟨m-1,∅⟩;have G:=Pt.graph W.Z W.N b4 hlt;have c2:graphOf r d (pB q)=some (B.map pB):=by rw[eg,growTo,y9.mpr (by rw[z3];lia)]
  rw[c2]at k;refine⟨_,rfl,_,rfl,e,aE,x,_,_,rfl,y,v.ec.cl,v.ec.nP,Kf c f u,_,rfl,e,aE,x,_,_,rfl,y,v.ec.cl,v.ec.nF,QH c f u,a,c,u,r,B,gs,A,rfl,W.same sm,⟨ts,O,M⟩,⟨S,a0,b6⟩,G,fun H2 wl L c3 b0 b5=>?_⟩;exists _,rfl,e,aE,x,_,rfl,L _ _ y,v.ec.cl,v.ec.nW,(by show 3<1000;decide);have ew:Bx "worth" (V.ref wl) (T3 c f u)=Hz c f u wl:=#v[];rw[ew];have ne:∀{b:Addr}{o:HO},H2 b=some o->(∀C w A,o≠ .ins C w A)->b≠e:=fun{b o} h n z=>by rw[z,L _ _ y]at h;exact n _ _ _ (zt h).symm
  have X:∀{b:Addr}{o:HO},H2 b=some o->(∀C w A,o≠ .ins C w A)->(Av H2 e (.ins aE x (Hz c f u wl))) b=some o:=fun h n=>by rw[Ac (ne h n)];exact h
  obtain⟨tw,c0,b9⟩:=b0;refine k _ B A ⟨⟨x,c,f,u,wl,Aa,⟨ts,X (L _ _ O) (by intro Y Y Y z;cases z),Am (fun Y Y z=>X (L _ _ z) (by intro Y Y Y z;cases z)) M⟩,X (L _ _ b3) (by intro Y Y Y z;cases z),⟨gs,X (L _ _ S) (by intro Y Y Y z;cases z),Am (fun Y Y z=>X (L _ _ z) (by intro Y Y Y z;cases z)) a0,b6⟩,⟨tw,X c0 (by intro Y Y Y z;cases z),Am (fun Y Y z=>X z (by intro Y Y Y z;cases z)) b9⟩⟩,G,b5⟩ rfl fun b o z=>?_;rw[Ac (Ab z N)];exact L _ _ (sm _ _ z)
end He
namespace He
open Tafl
theorem Nn:∀(l:List Nat)(d:Nat),l.foldl (fun a b=>max a b) d=d\/l.foldl (fun a b=>max a b) d∈l
|[],d=> .inl rfl
|x::l,d=>by
 rw[ym];rcases Nn l (max d x)with h|h
 ·rw[h];by_cases q:d<=x;·exact .inr (by rw[Nat.max_eq_right q];exact zh)
  ·exact .inl (Nat.max_eq_left ∅)
 ·exact .inr (zg _ h)
theorem Tj{side:Nat}{vs:List Value}(r:side<=1)(m:∀v∈vs,∀x,v=some x->x.1<=1)(i:vs≠[]):∃w∈vs,good (valueBy side vs) w=true:=by
 by_cases ho:CY side vs=[]
 ·by_cases hall:HM.GV side vs=true
  ·rw[HM.Cz ho i hall];have n:HM.greatest (vs.map many)∈vs.map many\/HM.greatest (vs.map many)=0:=by
    rcases Nn (vs.map many) 0 with h|h;·exact .inr h
    ·exact .inl h
   have f:=yq.mp hall;have g:∃w∈vs,many w=HM.greatest (vs.map many):=by
    rcases n with h|h;·obtain⟨w,c,d⟩:=zk.mp h;exact⟨w,c,d⟩
    ·obtain⟨w,l,e⟩:=vj i;refine⟨w,by rw[e];exact zh,?_⟩;have:=Cn (vs.map many) 0 (many w) (zk.mpr ⟨w,by rw[e];exact zh,rfl⟩);have s:(vs.map many).foldl (fun a b=>max a b) 0=0:=h;rw[h];lia
   obtain⟨w,c,d⟩:=g;exists w,c;rw[BP (f w c),d];simp[good]
  ·rw[HM.BR ho (fun q=>hall q.2)];have:∃w∈vs,¬sureFor w (1-side)=true:=by rw[y4,List.all_eq_false]at hall;obtain⟨w,c,d⟩:=hall;exact⟨w,c,d⟩
   obtain⟨w,c,d⟩:=this;exists w,c;cases w with|none=>rfl|some x=>have k:=m _ c x rfl;have j:x.1≠1-side:=fun z=>d (by simp[sureFor,z]);have p:x.1=side:=∅;have:(some x:Value)∈CY side vs:=zS.mpr ⟨c,by simp[sureFor,p]⟩;rw[ho]at this;cases this
 ·rw[HM.Er ho];have o:many ((CY side vs).headD none)=((CY side vs).map many).headD 0:=by obtain⟨w,l,e⟩:=vj ho;rw[e];rfl
  rw[o];have:=HM.Eg (l:=(CY side vs).map many) (by intro z;exact ho (ya.mp z));obtain⟨w,c,d⟩:=zk.mp this;obtain⟨k,j⟩:=zS.mp c;exists w,k;rw[BP j,<-d];simp[good,many]
def Zi(v:Value):Int×Int:=match v with|some x=>(((x.1:Nat):Int),((x.2:Nat):Int)-1) |none=>(2,0)
theorem Ol{v w:Value}(d:∀x,v=some x->x.1<=1)(c:∀x,w=some x->x.1<=1):Cv w=Zi v↔good v w=true:=by
 cases v with
 |none=>
  cases w with
  |none=>exact⟨fun Y=>rfl,fun Y=>rfl⟩
  |some y=>
   have:=c y rfl;constructor;·intro z;have a:=zT Prod.fst z;change((y.1:Nat):Int)=2 at a;lia
   ·intro z;cases z
 |some x=>
  have e:=d x rfl;cases w with
  |none=>
   constructor;·intro z;have a:=zT Prod.fst z;change(2:Int)=((x.1:Nat):Int)at a;lia
   ·intro z;cases z
  |some y=>
   have:good (some x) (some y)=(x.1==y.1&&x.2==y.2+1):=rfl;rw[this,zp,zP,zP];constructor;·intro z;have a:=zT Prod.fst z;have b:=zT Prod.snd z;change((y.1:Nat):Int)=((x.1:Nat):Int)at a;change((y.2:Nat):Int)=((x.2:Nat):Int)-1 at b;lia
   ·rintro⟨a,b⟩;show(((y.1:Nat):Int),((y.2:Nat):Int))=_;refine qu ?_ ?_;·show((y.1:Nat):Int)=((x.1:Nat):Int);lia
    ·show((y.2:Nat):Int)=((x.2:Nat):Int)-1;lia
theorem gJ{b:List Bd}{c:List (List Nat)}{r:Rules}{f:List Value}(G:EA r b c)(F:Xn (Cc b) c (BA r b) f)(i:Nat)(x:Nat×Nat)(h:f.getD i none=some x):x.1<=1:=by
 have g:i<f.length:=by
  by_cases q:i<f.length;·exact q
  ·rw[z5,y9.mpr ∅]at h;cases h
 have a:=F.eq i g;rw[h]at a;cases e:(BA r b).getD i none with
 |some y=>rw[e]at a;cases a;exact(G.gr.zero i x e).2
 |none=>
  rw[e]at a;have d:=G.gr.nD i;dsimp only at a;unfold valueBy at a;dsimp only at a;split at a;·cases a;exact d
  ·split at a;·cases a;show 1-_<=1;lia
   ·cases a
end He
namespace He
open PySem PySem.Spec PyProof.Rows L2
open PySem.W (Frag)
theorem Nt(a c d b):(Hz a c d b).lookup ("positions":Str)=some (.ref a):=#v[]
theorem km(c a d b):(Hz c a d b).lookup ("numbers":Str)=some (.ref a):=#v[]
theorem cK(c d a b):(Hz c d a b).lookup ("follows":Str)=some (.ref a):=#v[]
theorem G0(b c d a):(Hz b c d a).lookup ("worth":Str)=some (.ref a):=#v[]
theorem gk(b c d a):(Hz b c d a).lookup ("best_follow":Str)=none:=#v[]
theorem T4(b c d a):(Hz b c d a).lookup ("table":Str)=none:=#v[]
theorem gj(b c d a):(Hz b c d a).lookup ("sums":Str)=none:=#v[]
def Od(v:Tafl.Value):Prop:=∀x,v=some x->x.1<=1
inductive Wg:_|mk(t:Addr)(v:Tafl.Value):vs=[.ref t]->Ci H t (Cv v)->Od v->Q (.int (Tafl.code v:Nat)) H->Wg vs H Q E
inductive VW(CE:Addr):_|mk(e:Addr)(r:Rules)(ps:List Bd)(fs:List (List Nat)):vs=[.ref e]->Df CE H e r ps fs->(∀H' l,Ap H H'->H l=none->H' l=some (.lst (nV ((r.values (ps.map pB)).map Tafl.code)))->Q (.ref l) H')->VW CE vs H Q E
inductive Z5(CE:Addr):_|mk(e:Addr)(r:Rules)(ps:List Bd)(fs:List (List Nat))(i:Nat)(q:Bd):vs=[.ref e,.int i]->Df CE H e r ps fs->ps[i]?=some q->Bj r q≠[]->(∀H'(c j:Nat),Ap H H'->(fs.getD i [])[c]?=some j->good ((r.values (ps.map pB)).getD i none) ((r.values (ps.map pB)).getD j none)=true->(∀c' j':Nat,c'<c->(fs.getD i [])[c']?=some j'->¬good ((r.values (ps.map pB)).getD i none) ((r.values (ps.map pB)).getD j' none)=true)->Q (.int (c:Nat)) H')->Z5 CE vs H Q E
inductive O1(K:Frag):_|mk(wl:Addr)(vals:List Tafl.Value)(who:Nat):vs=[.ref wl,.int who]->kN H wl vals->(∀v∈vals,Od v)->vals.length<=200->who<=1->(∀H' l,Ap H H'->H l=none->H' l=some (.lst (nV (TaflEnds.greatest vals who)))->Q (.ref l) H')->O1 K vs H Q E
inductive Zz(CE:Addr):_|mk(e:Addr)(r:Rules)(ps:List Bd)(fs:List (List Nat)):vs=[.ref e]->Df CE H e r ps fs->(∀H' l,Ap H H'->H l=none->H' l=some (.lst (nV ([howMany (r.values (ps.map pB)) 0,howMany (r.values (ps.map pB)) 1,((r.values (ps.map pB)).filter fun(v:Tafl.Value)=>v==none).length]++(TaflEnds.greatest (r.values (ps.map pB)) 0++TaflEnds.greatest (r.values (ps.map pB)) 1))))->Q (.ref l) H')->Zz CE vs H Q E
theorem Df.who{g:Addr}{e:Addr}{r:Rules}{a:List Bd}{f:List (List Nat)}(h:Df g H e r a f):∀v∈r.values (a.map pB),Od v:=fun v c x b=>by obtain⟨i,d⟩:=yJ c;refine gJ h.g h.fx i x ?_;rw[z5,d,b];rfl
theorem Df.Xq{c:Addr}{e:Addr}{r:Rules}{a:List Bd}{b:List (List Nat)}(h:Df c H e r a b):(r.values (a.map pB)).length=a.length:=by rw[<-h.fx.len];simp[BA]
theorem Lo{v:Tafl.Value}(h:Od v):decide (V.int (Cv v).1=V.int 2)=decide (v=none):=by
 rw[Ey,y3];cases v with
 |none=>exact⟨fun Y=>rfl,fun Y=>rfl⟩
 |some x=>
  have:=h x rfl;constructor;·intro z;change((x.1:Nat):Int)=2 at z;lia
  ·intro z;cases z
theorem LO{v:Tafl.Value}{a:Nat}(h:Od v)(b:a<=1):decide (V.int (Cv v).1=V.int (a:Nat))=sureFor v a:=by rw[Ey];cases v with|none=>show decide ((2:Int)=_)=false;exact zo ∅|some x=>show decide (((x.1:Nat):Int)=_)=(x.1==a);rw[zZ,zJ,zP];lia
theorem oD:Ah ["value"] ["value"] (Ad ZZ):={}
theorem Yw(c:AY):FJ 1 "table_entry" ["value"] Wg:=by
 refine c.NW.has fun F=>F.ok oD fun H Q E d h=>?_;obtain⟨t,v,rfl,a,b,k⟩:=h;exists%[AK (Ao AX (Az Be (pv 0) Ae) (AB (v:= .int 2) rfl (C2 c.Fe) ⟨_,rfl⟩)) (Ag (Aj Ae)) Au|Aj (A9 Ce (A9 Ce Ae (A9 Ec Ae (Az Be (pv 0) Ae))) (Az Be (pv 0) Ae))];exists _,rfl,t,_,_,V.int (Cv v).1,rfl,rfl,.of a,rfl,rfl,_,rfl;cases v with
 |none=>exact BI (Lo b) k
 |some x=>
  refine B8 (Lo b) ⟨_,rfl,t,_,_,V.int (x.2:Nat),rfl,rfl,.of a,rfl,_,_,rfl,rfl,.inl ⟨⋯,⋯⟩,_,_,rfl,rfl,_,rfl,t,_,_,V.int (x.1:Nat),rfl,rfl,.of a,rfl,_,_,rfl,rfl,?_⟩;have e:(1+2*((x.2:Nat):Int))+((x.1:Nat):Int)=((Tafl.code (some x):Nat):Int):=by show _=((1+2*x.2+x.1:Nat):Int);lia
  cbv;rw[e];exact k
abbrev qB:List Str:=["self","value"]
theorem jd:Ah qB ["self"] (Ad UC):={}
theorem Pn(b:AY):bY 2 aE "table" ["self"] (VW aE):=by
 refine b.NN.has fun F=>F.ok jd fun H Q E y h=>?_;obtain⟨e,r,o,J,rfl,a,k⟩:=h;obtain⟨C,u,w,B,j,A,D,G,I,⟨m,p,n⟩⟩:=a.ex;exists Ag (Aj (F_ (own:=[("value",1)]) rfl jd.nd (BL (Al (pv 0))) (Dm (N0:=qB) (sc0:=Ad UC) rfl rfl ∎) (fun Y Y Y Y Y=>Aw (i:=1) jd.nd) (fun Y Y Y Y Y=>Cg) (fun Y Y Y Y Y=>Ay (Yw b) y rfl Ar (#v[pv 1]))));refine⟨_,rfl,e,aE,C,_,_,rfl,A,b.ec.cl,b.ec.nW,G0 u w B j,j,rfl,⟨_,AI.of p⟩,fun l g=>?_⟩;refine C_ (xs:=m.map V.ref) (Xl H l fun i=>nV (((r.values (o.map pB)).take i).map Tafl.code)) (IV g rfl) (fun i H' Y q=>AI.of (q.1 _ _ p)) ?_ ?_
 ·rintro i v H' s q;obtain⟨t,x,rfl⟩:∃t,m[i]?=some t/\v= .ref t:=by rw[z7,zy]at s;obtain⟨c,e,rfl⟩:=s;exact⟨c,e,rfl⟩
  obtain⟨v,f,d⟩:=AA n x;have z:i<o.length:=by rw[<-a.Xq];exact(z8.mp f).1
  refine⟨rfl,?_⟩;unfold HF;cbv;rw[zc rfl];refine⟨_,rfl,t,v,rfl,q.1 _ _ d,a.who v (zf f),Gn g q ?_ (AQ _) ?_⟩;·unfold nV;rw[z3,z3,zO];have:=a.g.small;have:(200:Nat)<sizeLine:=⋯;lia
  ·rw[yi,f,zu];unfold nV;rw[zu];rfl
 ·rintro H' q;refine k H' l q.1 g ?_;rw[q.2];cbv;rw[z3,zE n,y1]
theorem HP{e d c:Type}{R:e->c->Prop}(f:d->c):∀{i:List e}{g:List d},Paired (fun a b=>R a (f b)) i g->Paired R i (g.map f) |_,_,.nil=> .nil|_,_,.cons h t=> .cons h (HP f t)
theorem Nq{f:Type}{p:f->Bool}:∀{l:List f},(∃x∈l,p x=true)->∃(c:Nat)(x:f),l[c]?=some x/\p x=true/\∀(a:Nat)(b:f),a<c->l[a]?=some b->¬p b=true
|[],h=>by obtain⟨x,d,Y⟩:=h;cases d
|y::l,h=>by
 by_cases hy:p y=true;·exact⟨0,y,rfl,hy,fun a b i Y=>absurd i (xc _)⟩
 ·obtain⟨x,d,g⟩:=h;rcases zw.mp d with rfl|d;·exact absurd g hy
  ·obtain⟨c,x,m,k,j⟩:=Nq (l:=l) ⟨x,d,g⟩;refine⟨c+1,x,‹m›,k,fun a b i e=>?_⟩;cases a with|zero=>cases e;exact hy|succ a=>exact j a b ∅ ‹e›
abbrev qH:List Str:=["self","number","who","wanted","later"]
theorem ZI:Ah qH ["self","number"] (Ad ab):={}
theorem ck(J:AY):bY 1 aE "best_follow" ["self","number"] (Z5 aE):=by
 refine J.Hg.has fun F=>F.ok ZI fun H Q E hr h=>?_;obtain⟨e,r,P,fs,i,q,rfl,I,hq,a7,k⟩:=h;obtain⟨dx,pl,nd,fl,S,he,hP,hN,⟨gs,b8,a4,c1⟩,⟨tw,hw,pw⟩⟩:=I.ex;have X:i<P.length:=(z8.mp hq).1;have lv:=I.Xq;have b2:tw.length=P.length:=by rw[zE pw,lv]
 have b3:gs.length=P.length:=by rw[zE a4,I.g.len]
 generalize B:r.values (P.map pB)=a at*;have a1:∀v∈a,Od v:=by rw[<-B];exact I.who
 have n:∀j,Od (a.getD j none):=fun j x hx=>by cases e:a[j]? with|none=>rw[z5,e]at hx;cases hx|some v=>rw[z5,e]at hx;exact a1 v (zf e) x hx
 have N:∀j,j<P.length->∃t,tw[j]?=some t/\Ci H t (Cv (a.getD j none)):=fun j hj=>by obtain⟨t,ht⟩:∃t,tw[j]?=some t:=⟨_,z4 (by rw[b2];exact hj)⟩;obtain⟨v,U,b1⟩:=AA pw ht;exists t,ht;rw[z5,U];exact b1
 exists%[An (i:=2) ZI.nd (Az Be (Az AD (Al (pv 0)) (pv 1)) Ae),An (i:=3) ZI.nd (D4 (Ao AX (pv 2) (AB (v:= .int 2) rfl (C2 J.Fe) ⟨_,rfl⟩)) (B2 (#v[AB (v:= .int 2) rfl (C2 J.Fe) ⟨_,rfl⟩,Ae])) (B2 (#v[pv 2,A9 Eb (Az Be (Az AD (Al (pv 0)) (pv 1)) Ae) Ae]))) |Aj (B4 zK vV so (Pb hr.units) (F_ (te:=Rw (ax K) (Uz K (Bi 0) "worth") (Bi 4)) (own:=[("later",4)]) rfl ZI.nd (BL (Az AD (Al (pv 0)) (pv 1))) (Dm (N0:=qH) (sc0:=Ad ab) rfl rfl ∎) (fun Y Y Y Y Y=>Aw (i:=4) ZI.nd) (fun Y Y Y Y Y=>Cg) (fun Y Y Y Y Y=>Az AD (Al (pv 0)) (pv 4))) (#v[pv 3]))];obtain⟨ti,a5,s⟩:=N i X;refine⟨_,rfl,e,aE,dx,_,_,rfl,he,J.ec.cl,J.ec.nW,G0 pl nd fl S,_,rfl,S,_,_,V.ref ti,rfl,rfl,AI.of hw,AM (by rw[z7,a5];rfl),ti,_,_,V.int (Cv (a.getD i none)).1,rfl,rfl,.of s,rfl,Ax ?_⟩;cbv;refine EJ (fun a0 H1=>∃O,a0=[some (.ref e),some (.int (i:Nat)),some (.int (Cv (a.getD i none)).1),some (.ref O),none]/\Ap H H1/\Ci H1 O (Zi (a.getD i none))) ?_ ?_
 ·rintro a0 H1 ⟨O,rfl,s1,C⟩;obtain⟨g,hg⟩:∃g,gs[i]?=some g:=⟨_,z4 (by rw[b3];exact X)⟩;obtain⟨f,a6,b0⟩:=AA a4 hg;have d:fs.getD i []=f:=by rw[z5,a6];rfl
  have T:∀j∈f,j<P.length:=fun j hj=>I.g.gr.kZ i j (by rw[d];exact hj);have a3:f.length<=8788:=by rw[<-d,I.g.Ze i q hq,z3];exact MG I.g.Z (I.g.good q (zf hq))
  refine⟨_,rfl,e,aE,dx,_,_,rfl,s1 _ _ he,J.ec.cl,J.ec.nF,cK pl nd fl S,_,rfl,fl,_,_,V.ref g,rfl,rfl,AI.of (s1 _ _ b8),AM (by rw[z7,hg];rfl),g,rfl,⟨_,AI.of (s1 _ _ b0)⟩,fun D hD=>?_⟩;refine C_ (xs:=nV f) (fun k H'=>∃as:List Addr,Ap H1 H'/\H' D=some (.lst (as.map V.ref))/\Paired (fun t (j:Nat)=>Ci H t (Cv (a.getD j none))) as (f.take k)) ⟨[],Af hD,Aa,.nil⟩ (fun k H' Y ⟨_,z,_⟩=>AI.of (z _ _ (s1 _ _ b0))) ?_ ?_
  ·rintro k v H' hk ⟨as,s2,M,A⟩;obtain⟨j,hj,rfl⟩:∃j,f[k]?=some j/\v= .int (j:Nat):=by unfold nV at hk;rw[z7,zy]at hk;obtain⟨c,e,rfl⟩:=hk;exact⟨c,e,rfl⟩
   obtain⟨tj,b6,a2⟩:=N j (T j (zf hj));refine⟨rfl,?_⟩;unfold HF;cbv;rw[zc rfl];have w:=s1.trans s2;exists _,rfl,e,aE,dx,_,_,rfl,w _ _ he,J.ec.cl,J.ec.nW,G0 pl nd fl S,_,rfl,S,_,_,V.ref tj,rfl,rfl,AI.of (w _ _ hw),AM (by rw[z7,b6];rfl),_,M,?_,as++[tj],fun b o z=>?_,?_;·rw[z3,zE A,zO];exact y2 (z_ (xH _ _) a3) O9
   ·rw[Ac (Ab z hD)];exact s2 _ _ z
   ·rw[Aa,zu];rfl
   ·rw[yi,hj];exact BU A (.cons a2 .nil)
  ·rintro H' ⟨as,s2,M,A⟩;have el:f.take (nV f).length=f:=by unfold nV;rw[z3,y1]
   rw[el]at A;have w:=s1.trans s2;have Z:(BA r P).getD i none=none:=by unfold BA;rw[getD_map' _ _ _ _ _ hq];cases b9:r.endValue (pB q)with|none=>rfl|some z=>exact absurd (Ke.mpr (by rw[b9];exact fun z=>nomatch z)) a7
   have a9:=I.fx;rw[B]at a9;have L:=a9.eq i (by rw[lv];exact X);rw[Z]at L;dsimp only at L;rw[d]at L;obtain⟨wv,b5,G⟩:=Tj (side:=(Cc P).getD i 0) (vs:=f.map fun j=>a.getD j none) (I.g.gr.nD i) (fun v U=>by obtain⟨j,Y,rfl⟩:=zk.mp U;exact n j) (by intro z;rw[ya]at z;rw[z]at d;rw[I.g.Ze i q hq,ya]at d;exact a7 d);rw[<-L]at G;obtain⟨j0,b7,rfl⟩:=zk.mp b5;obtain⟨c,j,hc,a8,R⟩:=Nq (p:=fun j=>good (a.getD i none) (a.getD j none)) (l:=f) ⟨j0,b7,G⟩;exists .inl ⟨rfl,_,AI.of M⟩,_,rfl,D,O,as,f.map fun j=>Cv (a.getD j none),Zi (a.getD i none),c,rfl,rfl,AI.of M,?_,s2 _ _ C,?_,?_;·exact HP _ (Am (fun Y Y=>w _ _) A)
   ·rw[z7,hc];show some (Cv (a.getD j none))=_;rw[(Ol (n i) (n j)).mpr a8]
   ·intro m hm z;rw[z7,zy]at z;obtain⟨j',W,e'⟩:=z;exact R m j' hm W ((Ol (n i) (n j')).mp e')
   ·exact k H' c j w (by rw[d];exact hc) a8 fun c' j' c0 W=>R c' j' c0 (by rw[<-d];exact W)
 ·intro u;exists _,rfl,rfl,_,rfl;cases U:a.getD i none with|none=>rw[U]at u s;refine BI rfl ⟨K0,fun O C=>u _ _ ⟨O,rfl,Af C,Aa⟩⟩ |some x=>have b4:=n i x U;rw[U]at u s;refine B8 (by have:=Lo (v:=some x) (fun y hy=>by cases hy;exact b4);exact this) ⟨_,rfl,_,rfl,e,aE,dx,_,_,rfl,he,J.ec.cl,J.ec.nW,G0 pl nd fl S,_,rfl,S,_,_,V.ref ti,rfl,rfl,AI.of hw,AM (by rw[z7,a5];rfl),ti,_,_,V.int (x.2:Nat),rfl,rfl,.of s,rfl,_,_,rfl,rfl,K0,fun O C=>u _ _ ⟨O,rfl,Af C,Aa⟩⟩
abbrev qF:List Str:=["worth","who","lengths","value"]
theorem jj:Ah qF ["worth","who"] (Ad Mz):={}
theorem KG(Zf:AY):FJ 1 "longest_for" ["worth","who"] (O1 K):=by
 refine Zf.NY.has fun F=>F.ok jj fun H Q E hr h=>?_;obtain⟨wl,d,f,rfl,⟨tw,hw,pw⟩,s,a5,B,k⟩:=h;exists%[FW (i:=2) (tt:=Oq (Rw nG (Rw (aw K) (Bi 3) (tC (.int 0))) (Bi 1))) (te:=Rw (aw K) (Bi 3) (tC (.int 1))) (own:=[("value",3)]) rfl jj.nd rfl rfl (Ij rfl rfl rfl rfl) (BL (pv 0)) (Dm (N0:=qF) (sc0:=Ad Mz) rfl rfl ∎) (fun Y Y Y Y Y=>Aw (i:=3) jj.nd) (fun Y Y Y Y Y=>W8 (Ao AX (Az Be (pv 3) Ae) (pv 1))) (fun Y Y Y Y Y=>Az Be (pv 3) Ae),AK (FV (IF (pv 2) (fun Y=>rfl))) (Ag (Aj (AE (#v[Ae,Ae])))) Au|Aj (AE (#v[AN (VA rfl) Zf.bz Gv (#v[pv 2]),B4 zK vV so (Pb hr.units) (pv 0) (#v[B2 (#v[pv 1,AN (VA rfl) Zf.bz Gv (#v[pv 2])])])]))];refine⟨_,rfl,wl,rfl,⟨_,AI.of hw⟩,fun ll X=>?_⟩;let L:Nat->List Nat:=fun i=>((d.take i).filter fun v=>sureFor v f).map many;refine C_ (xs:=tw.map V.ref) (Xl H ll fun i=>nV (L i)) (IV X rfl) (fun i H' Y q=>AI.of (q.1 _ _ hw)) ?_ ?_
 ·rintro i v H' hi q;obtain⟨t,ht,rfl⟩:∃t,tw[i]?=some t/\v= .ref t:=by rw[z7,zy]at hi;obtain⟨c,e,rfl⟩:=hi;exact⟨c,e,rfl⟩
  obtain⟨v,C,M⟩:=AA pw ht;have T:=s v (zf C);have a6:i<d.length:=(z8.mp C).1;have hL:L (i+1)=L i++if sureFor v f=true then[many v]else[]:=by show((d.take (i+1)).filter _).map _=_;rw[yi,C,xP,rE,zu,wX,qm];split<;>rfl
  exists rfl,_,rfl,t,_,_,V.int (Cv v).1,rfl,rfl,.of (q.1 _ _ M),rfl,_,rfl,rfl,_,rfl;by_cases hs:sureFor v f=true
  ·rw[zc hs]at hL;refine BI ((LO T B).trans hs) ⟨_,rfl,t,_,_,V.int (Cv v).2,rfl,rfl,.of (q.1 _ _ M),rfl,Gn X q ?_ (AQ _) ?_⟩;·show(nV (L i)).length<_;unfold nV;rw[z3,z3];have:=xy (fun v=>sureFor v f) (d.take i);rw[zO]at this;have:(200:Nat)<sizeLine:=⋯;lia
   ·show nV (L (i+1))=nV (L i)++_;rw[hL];unfold nV;rw[zu];rw[BP hs];rfl
  ·rw[zb hs,zR]at hL;rw[y4]at hs;exact B8 ((LO T B).trans hs) (h_ q (AQ _) (by show nV (L (i+1))=nV (L i);rw[hL]))
 ·rintro H1 ⟨G,u⟩;have eL:L (tw.map V.ref).length=(d.filter fun v=>sureFor v f).map many:=by show((d.take _).filter _).map _=_;rw[z3,zE pw,y1]
  dsimp only at u;rw[eL]at u;generalize A:(d.filter fun v=>sureFor v f).map many=r at u;unfold TaflEnds.greatest at k;dsimp only at k;rw[A]at k;exists _,rfl,_,.inl ⟨_,AI.of u,rfl⟩;cases o:r with
  |nil=>
   rw[o]at k;have I:d.findIdx? (fun v=>sureFor v f&&many v==([]:List Nat).foldl (fun a b=>max a b) 0)=none:=by
    rw[wx];intro v C;have:d.filter (fun v=>sureFor v f)=[]:=by rw[o,ya]at A;exact A
    rw[xm]at this;have:=this v C;rw[y4]at this;rw[this];rfl
   rw[I]at k;refine BI rfl ⟨K0,fun l hl=>k _ l (G.trans (Af hl)) (G.free hl) Aa⟩
  |cons n0 a4=>
   refine B8 rfl ?_;have hg:r.foldl (fun a b=>max a b) 0∈r:=by
    rcases Nn r 0 with h|h;·rw[o]at h|-;rw[h];have:=Cn (n0::a4) 0 n0 zh;have:n0=0:=∅;rw[this];exact zh
    ·exact h
   have Z:∀y∈r,y<=r.foldl (fun a b=>max a b) 0:=fun y S=>Cn r 0 y S;generalize a7:r.foldl (fun a b=>max a b) 0=g at k hg Z;have R:∀m,m∈r.map (fun(n:Nat)=>(n:Int))->(∀y,y∈r.map (fun(n:Nat)=>(n:Int))->y<=m)->m=(g:Int):=fun m W S=>by obtain⟨n,hn,rfl⟩:=zk.mp W;have h1:=Z n hn;have h2:=S (g:Int) (zk.mpr ⟨g,hg,rfl⟩);show((n:Nat):Int)=(g:Int);lia
   have N:∀{Hx:Hp},Ap H1 Hx->AI K Hx ll ((r.map (fun(n:Nat)=>(n:Int))).map V.int):=fun{Hx} sx=>AI.of (by rw[sx _ _ u];unfold nV;rw[zG];rfl);have O:0<(r.map (fun(n:Nat)=>(n:Int))).length:=by rw[z3,o];exact Nat.succ_pos _
   refine⟨_,rfl,ll,_,rfl,N (AQ _),O,fun m W S=>?_⟩;obtain rfl:=R m W S;refine⟨_,rfl,.inl ⟨rfl,_,AI.of (G _ _ hw)⟩,_,rfl,_,rfl,ll,_,rfl,N (AQ _),O,fun m2 a2 a0=>?_⟩;obtain rfl:=R m2 a2 a0;refine⟨K0,fun tn a1=>?_⟩;have w:Ap H1 (Av H1 tn (.tup [.int (f:Nat),.int (g:Nat)])):=Af a1;have P:∀v,Od v->(Cv v=(((f:Nat):Int),((g:Nat):Int))↔(sureFor v f&&many v==g)=true):=fun v C=>by
    cases v with
    |none=>
     constructor;·intro z;have J:=zT Prod.fst z;change(2:Int)=((f:Nat):Int)at J;lia
     ·intro z;cases z
    |some x=>
     show _↔((x.1==f)&&(x.2==g))=true;rw[zp,zP,zP];constructor;·intro z;have J:=zT Prod.fst z;have z2:=zT Prod.snd z;change((x.1:Nat):Int)=((f:Nat):Int)at J;change((x.2:Nat):Int)=((g:Nat):Int)at z2;lia
     ·rintro⟨J,z2⟩;show(((x.1:Nat):Int),((x.2:Nat):Int))=_;rw[J,z2]
   obtain⟨c,v,hc,hp,D⟩:=Nq (p:=fun v=>sureFor v f&&many v==g) (l:=d) (by rw[<-A]at hg;obtain⟨v,C,e⟩:=zk.mp hg;obtain⟨h1,h2⟩:=zS.mp C;exact⟨v,h1,by rw[h2,e];simp⟩);have a3:d.findIdx? (fun v=>sureFor v f&&many v==g)=some c:=by rw[yL];obtain⟨h1,h2⟩:=z8.mp hc;exact⟨h1,by rw[h2];exact hp,fun j hj=>D j _ hj (z4 _)⟩
   exists wl,tn,tw,d.map Cv,(((f:Nat):Int),((g:Nat):Int)),c,rfl,rfl,AI.of (w _ _ (G _ _ hw)),HP _ (Am (fun Y Y z=>w _ _ (G _ _ z)) pw),Aa,?_,?_;·rw[z7,hc];show some (Cv v)=_;rw[(P v (s v (zf hc))).mpr hp]
   ·intro m W z;rw[z7,zy]at z;obtain⟨v',U,e'⟩:=z;exact D m v' W U ((P v' (s v' (zf U))).mp e')
   ·rw[a3]at k;refine⟨K0,fun l hl=>k _ l ((G.trans w).trans (Af hl)) ((G.trans w).free hl) Aa⟩
theorem TU{a:List Tafl.Value}(h:∀v∈a,Od v){who:Nat}(d:who<=1):(a.map fun v=>(Cv v).1).count (who:Int)=howMany a who:=by
 unfold howMany;induction a with
 |nil=>rfl
 |cons v l b=>
  rw[zH,ur,b fun x c=>h x (zg _ c),wX];have e:((Cv v).1==(who:Int))=sureFor v who:=by rw[<-LO (h v zh) d,Ey];rfl
  rw[e];cases sureFor v who<;>simp
theorem gx{a:List Tafl.Value}(h:∀v∈a,Od v):(a.map fun v=>(Cv v).1).count 2=(a.filter fun(v:Tafl.Value)=>v==none).length:=by
 induction a with
 |nil=>rfl
 |cons v l b=>
  rw[zH,ur,b fun x c=>h x (zg _ c),wX];have e:((Cv v).1==2)=(v==none):=by have:=Lo (h v zh);rw[Ey]at this;rw[zZ,zP,zP];have:=y3.mp this;exact this
  rw[e];cases(v==none)<;>simp
abbrev pM:List Str:=["self","winners","counts","value","who"]
theorem X9:Ah pM ["self"] (Ad Wo):={}
theorem cb(d:AY):bY 2 aE "sums" ["self"] (Zz aE):=by
 refine d.Qw.has fun F=>F.ok X9 fun H Q E hr h=>?_;obtain⟨e,r,ps,fs,rfl,G,k⟩:=h;obtain⟨dx,P,R,fl,w,he,hP,hN,hF,⟨B,D,C⟩⟩:=G.ex;have b:=G.who;have S:=G.Xq;have g:=G.g.small;exists%[An (i:=1) X9.nd (F_ (te:=Rw (aw K) (Bi 3) (tC (.int 0))) (own:=[("value",3)]) rfl X9.nd (BL (Al (pv 0))) (Dm (N0:=pM) (sc0:=Ad Wo) rfl rfl ∎) (fun Y Y Y Y Y=>Aw (i:=3) X9.nd) (fun Y Y Y Y Y=>Cg) (fun Y Y Y Y Y=>Az Be (pv 3) Ae)),FW (i:=2) (te:=pW K "list" (W5 K) (Bi 1) (Bc (Bi 4) B_)) (own:=[("who",4)]) rfl X9.nd rfl rfl (Ij rfl rfl rfl rfl) (Ql (B2 (#v[AB (v:= .int 0) rfl (C2 d.Km) ⟨_,rfl⟩,AB (v:= .int 1) rfl (C2 d.Fz) ⟨_,rfl⟩,AB (v:= .int 2) rfl (C2 d.Fe) ⟨_,rfl⟩]))) (Dm (N0:=pM) (sc0:=Ad Wo) rfl rfl ∎) (fun Y Y Y Y Y=>Aw (i:=4) X9.nd) (fun Y Y Y Y Y=>Cg) (fun Y Y Y Y Y=>B4 zK PySem.F.slot_list_count PySem.F.type_list_count Yc (pv 1) (#v[pv 4])) |Aj (A9 Ed (A9 Ed (pv 2) (Ay (KG d) hr rfl Ar (#v[Al (pv 0),AB (v:= .int 0) rfl (C2 d.Km) ⟨_,rfl⟩]))) (Ay (KG d) hr rfl Ar (#v[Al (pv 0),AB (v:= .int 1) rfl (C2 d.Fz) ⟨_,rfl⟩])))];generalize U:r.values (ps.map pB)=a at*;refine⟨_,rfl,e,aE,dx,_,_,rfl,he,d.ec.cl,d.ec.nW,G0 P R fl w,w,rfl,⟨_,AI.of D⟩,fun x y=>?_⟩;refine C_ (xs:=B.map V.ref) (Xl H x fun i=>(a.take i).map fun v=>V.int (Cv v).1) (IV y rfl) (fun i H' Y q=>AI.of (q.1 _ _ D)) ?_ ?_
 ·rintro i v H' l q;obtain⟨t,ht,rfl⟩:∃t,B[i]?=some t/\v= .ref t:=by rw[z7,zy]at l;obtain⟨c,e,rfl⟩:=l;exact⟨c,e,rfl⟩
  obtain⟨v,hv,L⟩:=AA C ht;have a6:i<ps.length:=by rw[<-S];exact(z8.mp hv).1
  refine⟨rfl,?_⟩;unfold HF;cbv;rw[zc rfl];refine⟨_,rfl,t,_,_,V.int (Cv v).1,rfl,rfl,.of (q.1 _ _ L),rfl,Gn y q ?_ (AQ _) ?_⟩;·rw[z3,zO];have:(200:Nat)<sizeLine:=⋯;lia
  ·rw[yi,hv,zu];rfl
 ·rintro H1 ⟨s1,s⟩;dsimp only at s;rw[z3,zE C,y1]at s;refine⟨kX,fun M W=>⟨M,rfl,⟨_,.of Aa⟩,fun I m=>?_⟩⟩;have N:Ap H1 (Av H1 M (.tup [.int 0,.int 1,.int 2])):=Af W;let J:List Nat:=[howMany a 0,howMany a 1,(a.filter fun(v:Tafl.Value)=>v==none).length];refine bM (xs:=[V.int 0,V.int 1,V.int 2]) (Xl (Av H1 M (.tup [.int 0,.int 1,.int 2])) I fun i=>nV (J.take i)) (IV m rfl) (fun i H' Y q=> .of (q.1 _ _ Aa)) ?_ ?_
  ·rintro i v H' l q;have Z:i<3:=(z8.mp l).1;refine⟨rfl,?_⟩;unfold HF;cbv;rw[zc rfl];have f:H' x=some (.lst ((a.map fun v=>(Cv v).1).map V.int)):=by rw[q.1 _ _ (N _ _ s),zG];rfl
   have u:(nV (J.take i)).length<sizeLine:=by unfold nV;rw[z3,zO];exact y2 (xH _ _) (by show 3<sizeLine;decide)
   match i,Z,l with|0,_,l=>cases l;refine⟨_,rfl,.inl ⟨rfl,_,AI.of f⟩,_,rfl,x,_,0,rfl,rfl,AI.of f,Gn m q u (AQ _) ?_⟩;rw[show(a.map fun v=>(Cv v).1).count (0:Int)=howMany a 0 from TU (who:=0) b ⋯];rfl|1,_,l=>cases l;refine⟨_,rfl,.inl ⟨rfl,_,AI.of f⟩,_,rfl,x,_,1,rfl,rfl,AI.of f,Gn m q u (AQ _) ?_⟩;rw[show(a.map fun v=>(Cv v).1).count (1:Int)=howMany a 1 from TU (who:=1) b ⋯];rfl|2,_,l=>cases l;refine⟨_,rfl,.inl ⟨rfl,_,AI.of f⟩,_,rfl,x,_,2,rfl,rfl,AI.of f,Gn m q u (AQ _) ?_⟩;rw[gx b];rfl
  ·rintro H2 ⟨s2,a0⟩;have p:Ap H H2:=(s1.trans N).trans s2;have A:H2 I=some (.lst (nV J)):=a0;have a3:H I=none:=(s1.trans N).free m;refine⟨_,rfl,_,rfl,e,aE,dx,_,_,rfl,p _ _ he,d.ec.cl,d.ec.nW,G0 P R fl w,w,a,0,rfl,⟨B,p _ _ D,Am (fun Y Y=>p _ _) C⟩,b,by rw[S];exact g,⋯,fun H3 l3 s3 a5 a2=>?_⟩;have T:∀n,(nV (TaflEnds.greatest a n)).length=2:=fun n=>rfl;refine⟨I,l3,_,_,rfl,rfl,s3 _ _ A,a2,(by rw[T];show 3+2<=sizeLine;decide),fun l4 X=>?_⟩;have s4:=Af (o:= .lst (nV J++nV (TaflEnds.greatest a 0))) X;have j:=(p.trans s3).trans s4;refine⟨_,rfl,e,aE,dx,_,_,rfl,j _ _ he,d.ec.cl,d.ec.nW,G0 P R fl w,w,a,1,rfl,⟨B,j _ _ D,Am (fun Y Y=>j _ _) C⟩,b,by rw[S];exact g,⋯,fun H5 l5 O a4 a1=>?_⟩;refine⟨l4,l5,_,_,rfl,rfl,O _ _ Aa,a1,(by rw[zd,T,T];show 3+2+2<=sizeLine;decide),fun l6 z=>?_⟩;refine k _ l6 ((j.trans O).trans (Af z)) ((j.trans O).free z) ?_;rw[Aa];unfold nV;rw[zu,zu,zX]
def V3(a b:V):List (Str×V):=[("hall",a),("ending",b)]
theorem DM(a b):(V3 a b).lookup ("hall":Str)=some a:=#v[]
theorem V2(b a):(V3 b a).lookup ("ending":Str)=some a:=#v[]
theorem De{m:Str}(a d:V)(c:¬m="hall")(b:¬m="ending"):(V3 a d).lookup m=none:=by unfold V3;rw[yp,zL.mpr c,yp,zL.mpr b];rfl
theorem gn(b a v:V):Bx "hall" v (V3 b a)=V3 v a:=#v[]
theorem Xe(a b v:V):Bx "ending" v (V3 a b)=V3 a v:=#v[]
def Uh(C:Addr)(H:Hp)(v:V):Option Rules->Prop|none=>v= .Bz|some r=>∃a,v= .ref a/\Bf C H a r
def Xm(d:Addr)(H:Hp)(v:V)(b:Option Rules):Option Held->Prop|none=>v= .Bz|some h=>∃r e a c,b=some r/\v= .ref e/\Df d H e r a c/\h=⟨a.map pB,r.values (a.map pB)⟩
inductive A_(CD C CE:Addr)(H:Hp)(d:Addr)(s:TaflEnds.State):Prop|mk(dx hv ev:_):H d=some (.ins CD dx (V3 hv ev))->Uh C H hv s.rules->Xm CE H ev s.rules s.held->A_ CD C CE H d s
def ni(o:HO):Prop:=∀C b a,o= .ins C b a->a.length≠2
def Kp(H H':Hp):Prop:=∀b o,H b=some o->ni o->H' b=some o
theorem GD(s:Ap H H'):Kp H H':=fun b o e Y=>s b o e
theorem Vf{g:Addr}{a:List (Str×V)}(c:H f=some (.ins C g a))(d:a.length=2)(h:DA f H H'):Kp H H':=fun b o e n=>h b o e fun z=>by rw[z,c]at e;cases e;exact n _ _ _ rfl d
theorem Bf.kp{r:Rules}(h:Bf C H a r)(s:Kp H H'):Bf C H' a r:=by obtain⟨⟨l,d,m,j,i,g,f⟩,Z,N⟩:=h;exact⟨⟨l,d,m,s _ _ j (fun o k n e=>by cases e;exact fun z=>absurd z (by show¬(11:Nat)=2;decide)),s _ _ i (fun Y Y Y e=>nomatch e),g,fun c b e=>s _ _ (f c b e) fun Y Y Y e=>nomatch e⟩,Z,N⟩
theorem Df.kp{c:Addr}{e:Addr}{r:Rules}{b:List Bd}{a:List (List Nat)}(h:Df c H e r b a)(s:Kp H H'):Df c H' e r b a:=by obtain⟨⟨B,l,o,v,d,q,⟨k,n,m⟩,p,⟨t,y,x,w⟩,⟨j,i,f⟩⟩,g,u⟩:=h;refine⟨⟨B,l,o,v,d,s _ _ q (fun C A a e=>by cases e;exact fun z=>absurd z (by show¬(4:Nat)=2;decide)),⟨k,s _ _ n (fun Y Y Y e=>nomatch e),Am (fun Y Y z=>s _ _ z fun Y Y Y e=>(by cases e)) m⟩,s _ _ p (fun Y Y Y e=>nomatch e),⟨t,s _ _ y (fun Y Y Y e=>nomatch e),Am (fun Y Y z=>s _ _ z fun Y Y Y e=>(by cases e)) x,w⟩,⟨j,s _ _ i (fun Y Y Y e=>nomatch e),Am (fun Y Y z=>s _ _ z fun Y Y Y e=>(by cases e)) f⟩⟩,g,u⟩
theorem Uh.kp{v:V}{b:Option Rules}(h:Uh C H v b)(s:Kp H H'):Uh C H' v b:=by cases b with|none=>exact h|some r=>obtain⟨a,e,h⟩:=h;exact⟨a,e,h.kp s⟩
theorem Xm.kp{c:Addr}{v:V}{b:Option Rules}{a:Option Held}(h:Xm c H v b a)(s:Kp H H'):Xm c H' v b a:=by cases a with|none=>exact h|some x=>obtain⟨r,e,d,k,j,i,g,f⟩:=h;exact⟨r,e,d,k,j,i,g.kp s,f⟩
theorem A_.same{c b:Addr}{d:Addr}{s:TaflEnds.State}(h:A_ c C b H d s)(a:Ap H H'):A_ c C b H' d s:=by obtain⟨k,e,j,i,g,f⟩:=h;exact⟨k,e,j,a _ _ i,g.kp (GD a),f.kp (GD a)⟩
theorem A_.feed{j i:Addr}{d r b k:Addr}{s:TaflEnds.State}(h:A_ j C i H d s)(e:H f=some (.ins r b (QG k p)))(g:DA f H H'):A_ j C i H' d s:=by obtain⟨q,l,o,a,n,m⟩:=h;have c:=Vf e rfl g;refine⟨q,l,o,g _ _ a fun z=>?_,n.kp c,m.kp c⟩;rw[z,e]at a;injection a with a;injection a with _ _ a;injection a with a _;injection a with a _;exact absurd a ∎
def DC(K:Frag)(a:Addr)(ns:List Int)(H:Hp)(E:XK):Prop:=∀C,dH K a C->Ref C ns H E
theorem DC.same{b:Addr}{a:Hp}{E:XK}(h:DC K b ns H E)(s:Ap H a):DC K b ns a E:=fun C c=>(h C c).same s
structure Out(K:Frag)(C0 CD C CE d:Addr)(s:TaflEnds.State)(c:Call)(H:Hp)(Q:VK)(E:XK):Prop where
 ok:∀H' l,A_ CD C CE H' d (TaflEnds.step s c).1->DA d H H'->H l=none->H' l=some (.lst ((TaflEnds.step s c).2.nums.map V.int))->Q (.ref l) H'
 no:(TaflEnds.step s c).1=s->DC K C0 (TaflEnds.step s c).2.nums H E
inductive Wh(CD C CE:Addr):_|mk(H0:Hp)(e:Addr):vs=[.ref e]->(∃dx,H e=some (.ins CD dx []))->Ap H0 H->H0 e=none->(∀H',A_ CD C CE H' e TaflEnds.start->Ap H0 H'->Q .Bz H')->Wh CD C CE vs H Q E
theorem oF:Ah ["self"] ["self"] (Ad Z_):={}
theorem Yx(a:AY):nO 1 aD ["self"] (Wh aD aH aE):=by refine a.jV.has fun F=>F.ok oF fun H Q E i h=>?_;obtain⟨j,e,rfl,⟨d,f⟩,b,c,k⟩:=h;exists%[B1 (pv 0) MB|B1 (pv 0) MB];exists _,rfl,e,aD,d,_,rfl,f,a.dc.cl,a.dc.nH,(by show 0<1000;decide),_,rfl,e,aD,d,_,rfl,Aa,a.dc.cl,a.dc.nE,(by show 1<1000;decide);rw[DH];have g:Bx "ending" V.Bz (Bx "hall" V.Bz [])=V3 .Bz .Bz:=#v[];rw[g];exact k _ ⟨d,.Bz,.Bz,Aa,rfl,rfl⟩ (Bu b c)
inductive Ma(K:Frag)(C0 CD C CE:Addr):_|mk(d:Addr)(x:Str)(b:Bytes)(s:TaflEnds.State):vs=[.ref d,.str x]->Tx x b->A_ CD C CE H d s->Out K C0 CD C CE d s (.rules b) H Q E->Ma K C0 CD C CE vs H Q E
theorem ox:Ah ["self","text"] ["self","text"] (Ad OE):={}
theorem Q8(a:AY):Zd 8 aD "set_rules" ["self","text"] (Ma K aZ aD aH aE):=by
 refine a.Lf.has fun F=>F.Ju ox fun H Q E G h D=>?_;obtain⟨d,x,b,c,rfl,B,⟨q,N,P,I,O,R⟩,k⟩:=h;exists%[B1 (pv 0) (Ay (NT a) G rfl D.passes (#v[pv 1])),B1 (pv 0) MB|Aj (AE (#v[Ae]))];exists _,rfl,x,b,rfl,B;obtain⟨g,i⟩:=k;cases A:judge b with
 |error f=>
  have e:TaflEnds.step c (.rules b)=(c,fault (-6) f.1 f.2):=by show(match judge b with| .error (k,p)=>(c,fault (-6) k p) | .ok r=>(⟨some r,none⟩,says 0))=_;rw[A]
  rw[e]at i;exact i rfl _ a.M8
 |ok r=>
  have e:TaflEnds.step c (.rules b)=(⟨some r,none⟩,says 0):=by show(match judge b with| .error (k,p)=>(c,fault (-6) k p) | .ok r=>(⟨some r,none⟩,says 0))=_;rw[A]
  rw[e]at g;intro y s u M J;have m:=u _ _ I;exists _,rfl,d,aD,q,_,rfl,m,a.dc.cl,a.dc.nH,(by show 2<1000;decide);rw[gn];exists _,rfl,d,aD,q,_,rfl,Aa,a.dc.cl,a.dc.nE,(by show 2<1000;decide);rw[Xe,DH];refine⟨Js,fun l j=>?_⟩;have L:DA d H (Av y d (.ins aD q (V3 (.ref s) .Bz))):=fun w o e n=>by rw[Ac n];exact u _ _ e
  have t:=Af (o:= .lst [.int 0]) j;have C:Kp y (Av y d (.ins aD q (V3 (.ref s) .Bz))):=Vf m rfl fun w o e n=>by rw[Ac n];exact e
  have v:l≠d:=fun z=>by rw[z,Aa]at j;cases j
  refine g _ l ⟨q,.ref s,.Bz,t _ _ Aa,⟨s,rfl,(J.kp C).same t⟩,rfl⟩ (fun w o e n=>t _ _ (L w o e n)) (u.free (by rw[Ac v]at j;exact j)) Aa
def gN(K:Frag)(c i:Addr)(s:TaflEnds.State)(b:Bytes)(a:Nat)(H:Hp)(Q:VK)(E:XK):Prop:=match s.rules with|none=>DC K c [-3] H E|some r=>match r.readLine b with| .error f=>DC K c [-5,(f.1:Nat),(f.2:Nat)] H E| .ok p=>if a=0\/200<a then DC K c [-1] H E else match graphOf r a p with|none=>DC K c [-9] H E|some g=>∀H' e d h,Df i H' e r d h->d.map pB=g->Ap H H'->H e=none->Q (.ref e) H'
inductive gT(K:Frag)(C0 CD C CE:Addr):_|mk(d:Addr)(x:Str)(b:Bytes)(most:Nat)(s:TaflEnds.State):vs=[.ref d,.int (most:Nat),.str x]->Tx x b->A_ CD C CE H d s->gN K C0 CE s b most H Q E->gT K C0 CD C CE vs H Q E
theorem br(a:Addr):decide (V.ref a=V.Bz)=false:=zo fun z=>nomatch z
abbrev vh:List Str:=["self","most","line","first"]
theorem md:Ah vh ["self","most","line"] (Ad RT):={}
theorem KI(j:AY):Zd 9 aD "all_that_comes" ["self","most","line"] (gT K aZ aD aH aE):=by
 refine j.Gf.has fun F=>F.Ju md fun H Q E A h n=>?_;obtain⟨d,x,b,c,T,rfl,R,⟨G,L,D,B,s,eV⟩,k⟩:=h;have m:AV 3 _:=A.mono ⋯;have y:AV 6 _:=A.mono ⋯;exists%[AK (Ao aY (Al (pv 0)) MB) (Ag (DZ (Cs j) m.h rfl rfl n.weak)) Au,An (i:=3) md.nd (Ay (Ja j) y rfl n.passes (#v[Al (pv 0),pv 2])),AK (hI (Ao FA (pv 1) Ae) (ay (Ao a_ (pv 1) (AB (v:= .int 200) (by rfl) (C2 j.Lm) ⟨_,rfl⟩)))).pt (Ag (DZ (Hv j) m.h rfl rfl n.weak)) Au|Aj (IJ (Tf j) A rfl j.cv n.weak.passes (#v[Al (pv 0),pv 3,pv 1]))];refine CS (DG ⟨_,rfl,d,aD,G,_,_,rfl,B,j.dc.cl,j.dc.nH,DM L D,rfl,_,rfl,?_⟩);unfold gN at k;cases N:T.rules with
 |none=>rw[N]at k s;have C:L= .Bz:=s;subst C;exact BI (zj rfl) (D_ (Cs j) (k _ j.FU))
 |some r=>
  rw[N]at k s;obtain⟨a,rfl,P⟩:=s;dsimp only at k;refine B8 (br a) ⟨_,rfl,d,aD,G,_,_,rfl,B,j.dc.cl,j.dc.nH,DM _ D,_,rfl,a,x,b,r,rfl,P,R,?_⟩;cases O:r.readLine b with
  |error f=>rw[O]at k;exact k _ j.Ho
  |ok p=>
   rw[O]at k;dsimp only at k;intro J S q l nt Z GB ep;refine Ax ?_;cbv;refine CS (DG (iR (decide ((c:Int)<1)) (decide ((200:Int)<(c:Int))) (fun Q' t=>⟨_,rfl,_,_,rfl,rfl,_,rfl,t⟩) (fun Y Q' t=>⟨_,rfl,_,_,rfl,rfl,_,rfl,t⟩) ?_));by_cases hm:c=0\/200<c;·rw[zc hm]at k;refine BI ?_ (D_ (Hv j) ((k _ j.Sa).same l));rw[yt,zq,zq];lia
   ·rw[zb hm]at k;refine B8 ?_ ?_;·rw[ux,yY,yY];lia
    ·refine⟨_,rfl,d,aD,G,_,_,rfl,l _ _ B,j.dc.cl,j.dc.nH,DM _ D,_,rfl,_,rfl,fun e I u w X=>?_⟩;have V:Ap J (Av (Av J I (.own e)) e (.ins aE I [])):=fun b' o z=>by rw[Ac (Ab z u),Ac (Ab z w)];exact z
     exists J,e,a,S,r,q,c,rfl,⟨I,Aa⟩,V,u,P.same l,Z,GB,∅,∅;rw[ep];cases M:graphOf r c p with|none=>rw[M]at k;exact(k _ j.XG).same l|some g=>rw[M]at k;exact fun H2 W fs hE e2 U=>⟨rfl,k H2 e W fs hE e2 (l.trans U) (l.free u)⟩
inductive O5(K:Frag)(C0 CD C CE:Addr):_|mk(d:Addr)(x:Str)(b:Bytes)(most:Nat)(s:TaflEnds.State):vs=[.ref d,.int (most:Nat),.str x]->Tx x b->A_ CD C CE H d s->Out K C0 CD C CE d s (.find b most) H Q E->O5 K C0 CD C CE vs H Q E
theorem Pz(s:TaflEnds.State)(b:Bytes)(a:Nat):TaflEnds.step s (.find b a)=match s.rules with|none=>(s,says (-3)) |some r=>match r.readLine b with| .error f=>(s,fault (-5) f.1 f.2) | .ok p=>if a=0\/200<a then(s,says (-1))else match graphOf r a p with|none=>(s,says (-9)) |some g=>(⟨s.rules,some ⟨g,r.values g⟩⟩,says (g.length:Nat)):=by show ofLine s b _=_;unfold ofLine;cases c:s.rules with|none=>rfl|some r=>cbv;cases r.readLine b with|error f=>rfl|ok p=>rfl
theorem MY(s:TaflEnds.State)(b:Bytes)(a:Nat)(t:List Nat):TaflEnds.step s (.judge b a t)=match s.rules with|none=>(s,says (-3)) |some r=>match r.readLine b with| .error f=>(s,fault (-5) f.1 f.2) | .ok p=>if a=0\/200<a then(s,says (-1))else match graphOf r a p with|none=>(s,says (-9)) |some g=>(s,says (if(r.values g).map Tafl.code=t then 1 else 0)):=by
 show ofLine s b _=_;unfold ofLine;cases c:s.rules with
 |none=>rfl
 |some r=>
  cbv;cases r.readLine b with
  |error f=>rfl
  |ok p=>
   cbv;by_cases hm:a=0\/200<a;·rw[zc hm,zc (show a=0\/TaflEnds.MOST<a from hm)]
   ·rw[zb hm,zb (show¬(a=0\/TaflEnds.MOST<a)from hm)];cases graphOf r a p<;>rfl
abbrev u4:List Str:=["self","most","line"]
theorem oC:Ah u4 ["self","most","line"] (Ad RN):={}
theorem Td(j:AY):Zd 10 aD "find_all" ["self","most","line"] (O5 K aZ aD aH aE):=by
 refine j.MU.has fun F=>F.Ju oC fun H Q E Z h X=>?_;obtain⟨d,x,b,i,A,rfl,S,N,c,a⟩:=h;obtain⟨s,D,ev,I,J,eV⟩:=id N;exists%[B1 (pv 0) (AG (KI j) (pv 0) j.dc.cl Z X.passes (#v[pv 1,pv 2])) |Aj (AE (#v[AN AU j.D6 y8 (#v[Al (Al (pv 0))])]))];exists _,rfl,d,s,_,rfl,I,De _ _ ∎ ∎,_,rfl,_,rfl,d,x,b,i,A,rfl,S,N;rw[Pz]at c a;unfold gN;cases L:A.rules with
 |none=>rw[L]at a;exact a rfl
 |some r=>
  rw[L]at c a J;dsimp only at c a|-;cases M:r.readLine b with
  |error f=>rw[M]at a;exact a rfl
  |ok p=>
   rw[M]at c a;dsimp only at c a|-;by_cases hm:i=0\/200<i;·rw[zc hm]at a|-;exact a rfl
   ·rw[zb hm]at c a|-;cases G:graphOf r i p with
    |none=>rw[G]at a;exact a rfl
    |some g=>
     rw[G]at c;dsimp only at c;intro P e U fs hE O u ne;have m:=u _ _ I;exists _,rfl,d,aD,s,_,rfl,m,j.dc.cl,j.dc.nE,(by show 2<1000;decide);rw[Xe];have C:Kp P (Av P d (.ins aD s (V3 D (.ref e)))):=Vf m rfl fun b' o e n=>by rw[Ac n];exact e
     have q:=hE.kp C;obtain⟨de,B,W,fl,R,he,⟨T,y,w⟩,Y⟩:=q.ex;refine⟨_,rfl,d,aD,s,_,_,rfl,Aa,j.dc.cl,j.dc.nE,V2 _ _,e,aE,de,_,_,rfl,he,j.ec.cl,j.ec.nP,Nt B W fl R,B,_,rfl,.inl (AI.of y),Js,fun l k=>?_⟩;have t:=Af (o:= .lst [.int (((T.map V.ref).length:Nat):Int)]) k;have v:l≠d:=fun z=>by rw[z,Aa]at k;cases k
     refine c _ l ⟨s,D,.ref e,t _ _ Aa,(Uh.kp (J.kp (GD u)) C).kp (GD t),r,e,U,fs,rfl,rfl,q.kp (GD t),by rw[O]⟩ (fun b' o z n=>t _ _ (by rw[Ac n];exact u _ _ z)) (u.free (by rw[Ac v]at k;exact k)) ?_;rw[Aa,z3,zE w,<-O,z3];rfl
def PL(K:Frag)(d c:Addr)(s:TaflEnds.State)(H:Hp)(Q:VK)(E:XK):Prop:=match s.held with|none=>DC K d [-3] H E|some h=>∀e r a b,s.rules=some r->Df c H e r a b->h=⟨a.map pB,r.values (a.map pB)⟩->Q (.ref e) H
inductive Z3(K:Frag)(C0 CD C CE:Addr):_|mk(d:Addr)(s:TaflEnds.State):vs=[.ref d]->A_ CD C CE H d s->PL K C0 CE s H Q E->Z3 K C0 CD C CE vs H Q E
theorem o8:Ah ["self"] ["self"] (Ad gX):={}
theorem Jb(a:AY):Zd 4 aD "held" ["self"] (Z3 K aZ aD aH aE):=by refine a.Vd.has fun F=>F.Ju o8 fun H Q E p h o=>?_;obtain⟨d,m,rfl,⟨l,f,j,i,v,b⟩,k⟩:=h;exists%[AK (Ao aY (Al (pv 0)) MB) (Ag (DZ (Cs a) p.h rfl rfl o.weak)) Au|Aj (Al (pv 0))];refine CS (DG ⟨_,rfl,d,aD,l,_,_,rfl,i,a.dc.cl,a.dc.nE,V2 f j,rfl,_,rfl,?_⟩);unfold PL at k;cases g:m.held with|none=>rw[g]at k b;have c:j= .Bz:=b;subst c;exact BI (zj rfl) (D_ (Cs a) (k _ a.FU)) |some h=>rw[g]at k b;obtain⟨r,e,n,u,t,rfl,s,q⟩:=b;exact B8 (br e) ⟨_,rfl,d,aD,l,_,_,rfl,i,a.dc.cl,a.dc.nE,V2 f _,k e r n u t s q⟩
def N8(K:Frag)(b d:Addr)(s:TaflEnds.State)(i:Nat)(H:Hp)(Q:VK)(E:XK):Prop:=match s.held with|none=>DC K b [-3] H E|some h=>if h.graph.length<=i then DC K b [-2] H E else∀e r a c,s.rules=some r->Df d H e r a c->h=⟨a.map pB,r.values (a.map pB)⟩->i<a.length->Q (.ref e) H
inductive We(K:Frag)(C0 CD C CE:Addr):_|mk(d:Addr)(i:Nat)(s:TaflEnds.State):vs=[.ref d,.int (i:Nat)]->A_ CD C CE H d s->N8 K C0 CE s i H Q E->We K C0 CD C CE vs H Q E
abbrev t8:List Str:=["self","number","ending"]
theorem lV:Ah t8 ["self","number"] (Ad OI):={}
theorem Fy(a:AY):Zd 5 aD "held_with" ["self","number"] (We K aZ aD aH aE):=by
 refine a.Lg.has fun F=>F.Ju lV fun H Q E n h m=>?_;obtain⟨d,i,j,rfl,q,k⟩:=h;obtain⟨A,D,I,w,G,L⟩:=id q;have c:AV 3 _:=n.mono ⋯;exists%[An (i:=2) lV.nd (AS (Jb a) (pv 0) a.dc.cl n m.passes),AK (Ao bb (pv 1) (AN AU a.D6 y8 (#v[Al (pv 2)]))) (Ag (DZ (BW a) c.h rfl rfl m.weak)) Au|Aj (pv 2)];exists _,rfl,d,A,_,rfl,w,De _ _ ∎ ∎,d,j,rfl,q;unfold N8 at k;unfold PL;cases o:j.held with
 |none=>rw[o]at k;exact k
 |some h=>
  rw[o]at k;dsimp only at k|-;intro e r b y x p s;refine Ax ?_;obtain⟨B,l,u,z,t,v,⟨C,g,f⟩,Y⟩:=p.ex;refine CS (DG ⟨_,rfl,_,rfl,e,aE,B,_,_,rfl,v,a.ec.cl,a.ec.nP,Nt l u z t,l,_,rfl,.inl (AI.of g),_,_,rfl,rfl,_,rfl,?_⟩);cbv;rw[z3,zE f];have J:h.graph.length=b.length:=by rw[s,z3]
  by_cases hi:b.length<=i;·rw[zc ∅]at k;exact BI (zj ∅) (D_ (BW a) (k _ a.EM))
  ·rw[zb ∅]at k;exact B8 (zo ∅) ⟨_,rfl,k e r b y x p s ∅⟩
theorem DV{s:TaflEnds.State}{f:Rules->Held->Answer}(h:s.held=none):ofHeld s f=(s,says (-3)):=by unfold ofHeld;rw[h];cases s.rules<;>rfl
theorem DU{s:TaflEnds.State}{f:Rules->Held->Answer}{r:Rules}{h:Held}(b:s.rules=some r)(a:s.held=some h):ofHeld s f=(s,f r h):=by unfold ofHeld;rw[b,a]
theorem SF{r:Rules}(Z:B0 r)(p:Tafl.Pos):(r.line p).length<=1000:=by
 unfold Rules.line;rw[zd];have a:=Z.KR;have b:=Z.Vt;have:=M3 (fun i=>rowLine 0 (r.rowOf p (r.high-1-i))) (fun i=>by
  have e:(r.rowOf p (r.high-1-i)).length=r.wide:=by unfold Rules.rowOf;rw[z3,yj]
  have:=Et (r.rowOf p (r.high-1-i)) 0 ∅;lia) r.high;simp only[zm,yQ];lia
theorem QJ:∀ns:List Int,N9 K H (ns.map V.int) (ns.map PyData.int) |[]=> .nil|n::ns=> .cons (.int n) (QJ ns)
theorem lay_ints:∀ns:List Int,PyData.canLayAll0 (ns.map PyData.int)=true|[]=>rfl|n::ns=>by show(PyData.canLay0 (.int n)&&PyData.canLayAll0 (ns.map PyData.int))=true;rw[lay_ints ns];rfl
theorem Nu:∀ns:List Int,PyData.depthAll (ns.map PyData.int)=0|[]=>rfl|n::ns=>by show max 0 (PyData.depthAll (ns.map PyData.int))=0;rw[Nu ns];rfl
theorem shaped_ints(ns:List Int):SeqAt.shaped (.list (ns.map PyData.int))=true:=by unfold SeqAt.shaped;rw[zp];refine⟨lay_ints ns,?_⟩;rw[zq];show PyData.depthAll (ns.map PyData.int)+1<=64;rw[Nu];decide
theorem Tz:∀a ns:List Int,PyData.eqvAll (a.map PyData.int) (ns.map PyData.int)=decide (a=ns) |[],[]=>rfl|[],n::ns=>rfl|m::a,[]=>rfl|m::a,n::ns=>by show((m==n)&&PyData.eqvAll (a.map PyData.int) (ns.map PyData.int))=_;rw[Tz a ns,zZ];simp
theorem Qi{H0 a:Hp}{b l:Addr}{Q:VK}(e:a b=some (.lst [.int 0]))(d:a l=some (.lst (ns.map V.int)))(f:ns.length<=30001)(k:∀p,a p=none->Q (.ref p) (Av a p (.lst ((0::ns).map V.int)))):jx (.ref b) (.ref l) a Q:=by refine⟨b,l,_,_,rfl,rfl,e,d,?_,fun p c=>k p c⟩;rw[z3];show 1+ns.length<=sizeLine;have:(40000:Nat)<=sizeLine:=⋯;lia
inductive LX(K:Frag)(C0 CD C CE:Addr):_|mk(d:Addr)(i:Nat)(s:TaflEnds.State):vs=[.ref d,.int (i:Nat)]->A_ CD C CE H d s->Out K C0 CD C CE d s (.pos i) H Q E->LX K C0 CD C CE vs H Q E
abbrev q_:List Str:=["self","number","position"]
theorem lO:Ah q_ ["self","number"] (Ad OC):={}
theorem Q5(j:AY):Zd 6 aD "tell_line" ["self","number"] (LX K aZ aD aH aE):=by
 refine j.Ld.has fun F=>F.Ju lO fun H Q E D h hx=>?_;obtain⟨d,i,k,rfl,O,g,b⟩:=h;obtain⟨dx,hv,ev,U,W,Z⟩:=id O;have C:AV 3 _:=D.mono ⋯;have t:AV 1 _:=D.mono ⋯;exists%[An (i:=2) lO.nd (Az AD (Al (AG (Fy j) (pv 0) j.dc.cl D hx.passes (#v[pv 1]))) (pv 1)) |Aj (A9 Ed (AE (#v[Ae])) (Ay (E1 j) t rfl Ar (#v[Ay (Tg j) t rfl Ar (#v[Ay (Vq j) C rfl Ar (#v[Al (pv 0),pv 2])])])))];exists _,rfl,d,dx,_,rfl,U,De _ _ ∎ ∎,_,rfl,d,i,k,rfl,O;replace g:∀H' l,A_ aD aH aE H' d (ofHeld k fun r h=>match h.graph[i]? with|none=>says (-2) |some p=>tells 0 [.text (r.line p)]).1->DA d H H'->H l=none->H' l=some (.lst ((ofHeld k fun r h=>match h.graph[i]? with|none=>says (-2) |some p=>tells 0 [.text (r.line p)]).2.nums.map V.int))->Q (.ref l) H':=g;replace b:(ofHeld k fun r h=>match h.graph[i]? with|none=>says (-2) |some p=>tells 0 [.text (r.line p)]).1=k->DC K aZ (ofHeld k fun r h=>match h.graph[i]? with|none=>says (-2) |some p=>tells 0 [.text (r.line p)]).2.nums H E:=b;unfold N8;cases M:k.held with
 |none=>rw[DV M]at b;exact b rfl
 |some h=>
  cbv;rw[M]at Z;obtain⟨f,e0,a0,a1,A,Y,Y,Y⟩:=Z;rw[DU A M]at g b;by_cases hi:h.graph.length<=i;·rw[zc hi];rw[xX hi]at b;exact b rfl
  ·rw[zb hi];intro e r R fs X N h4 y;have:f=r:=zt (A.symm.trans X);subst this;rw[X]at W;obtain⟨a,rfl,hA⟩:=W;obtain⟨de,S,nd,fl,wl,he,⟨B,I,w⟩,Y⟩:=N.ex;obtain⟨q,G⟩:∃q,R[i]?=some q:=⟨_,z4 y⟩;have s:i<B.length:=by rw[zE w];exact y
   obtain⟨q',v,hP⟩:=AA w (z4 s);rw[G]at v;cases v;have GB:=N.g.good q (zf G);have eg:h.graph[i]?=some (pB q):=by rw[h4];show(R.map pB)[i]?=_;rw[z7,G];rfl
   rw[eg]at g;dsimp only at g;refine⟨e,aE,de,_,_,rfl,he,j.ec.cl,j.ec.nP,Nt S nd fl wl,_,rfl,S,_,_,.ref B[i],rfl,rfl,AI.of I,AM (by rw[z7,z4 s];rfl),Ax ⟨Js,fun l0 L=>?_⟩⟩;have n:=Af (o:= .lst [.int 0]) L;refine⟨_,rfl,d,aD,dx,_,_,rfl,n _ _ U,j.dc.cl,j.dc.nH,DM _ _,_,rfl,a,B[i],f,q.1,q.2,rfl,hA.same n,n _ _ hP,GB.b,GB.t,fun H2 s2=>?_⟩;have ll:=SF N.g.Z (Aq q.1 q.2);refine⟨Cb (f.line (Aq q.1 q.2)),rfl,?_,fun H3 l3 s3 n3 x=>?_⟩;·have:=DY (f.line (Aq q.1 q.2));unfold Str.length at this;lia
   ·have e3:(Cb (f.line (Aq q.1 q.2))).cps.toList.map (fun c=>V.int (c:Nat))=((f.line (Aq q.1 q.2)).map fun u=>((u.toNat:Nat):Int)).map V.int:=by unfold Cb;rw[Bb,zG,zG];rfl
    rw[e3]at x;refine⟨l3,_,rfl,x,by rw[z3];lia,fun H4 l4 s4 n4 J=>?_⟩;have m:=(s2.trans s3).trans s4;refine Qi (H0:=H) (m _ _ Aa) J (by simp only[zm,z3];lia) fun p T=>?_;have P:=m.trans (Af (o:= .lst ((0::(((f.line (Aq q.1 q.2)).map fun u=>((u.toNat:Nat):Int)).length:Int)::(f.line (Aq q.1 q.2)).map fun u=>((u.toNat:Nat):Int)).map V.int)) T);refine g _ p (O.same (n.trans P)) (fun b' o z Y=>P _ _ (n _ _ z)) ((n.trans m).free T) ?_;rw[Aa];show some (HO.lst _)=some (HO.lst ((tells 0 [.text (f.line (Aq q.1 q.2))]).nums.map V.int));have en:(tells 0 [.text (f.line (Aq q.1 q.2))]).nums=0::((f.line (Aq q.1 q.2)).length:Int)::(f.line (Aq q.1 q.2)).map fun u=>((u.toNat:Nat):Int):=by show 0::(((f.line (Aq q.1 q.2)).length:Int)::(f.line (Aq q.1 q.2)).map fun u=>((u.toNat:Nat):Int))++[]=_;rw[zR]
    rw[en,z3]
inductive Io(K:Frag)(C0 CD C CE:Addr):_|mk(d:Addr)(x:Str)(b:Bytes)(s:TaflEnds.State):vs=[.ref d,.str x]->Tx x b->A_ CD C CE H d s->Out K C0 CD C CE d s (.no b) H Q E->Io K C0 CD C CE vs H Q E
theorem WE{s:TaflEnds.State}{b:Bytes}(h:s.held=none):TaflEnds.step s (.no b)=(s,says (-3)):=by show(match s.rules,s.held with|some r,some h=>(s,_) |_,_=>(s,says (-3)))=_;rw[h];cases s.rules<;>rfl
theorem WD{s:TaflEnds.State}{b:Bytes}{r:Rules}{h:Held}(c:s.rules=some r)(a:s.held=some h):TaflEnds.step s (.no b)=(s,match r.readLine b with| .error f=>fault (-5) f.1 f.2| .ok p=>match h.graph.findIdx? fun(q:Tafl.Pos)=>q==p with|none=>says (-2) |some i=>says (i:Nat)):=by
 show(match s.rules,s.held with
 |some r,some h=>(s,match r.readLine b with| .error (k,p)=>fault (-5) k p| .ok p=>match h.graph.findIdx? fun(q:Tafl.Pos)=>q==p with|none=>says (-2) |some i=>says (i:Nat))
 |_,_=>(s,says (-3)))=_;rw[c,a];cbv;cases r.readLine b<;>rfl
abbrev qZ:List Str:=["self","line","numbers","position"]
theorem jc:Ah qZ ["self","line"] (Ad K2):={}
theorem Nc(g:AY):Zd 7 aD "tell_number" ["self","line"] (Io K aZ aD aH aE):=by
 refine g.IU.has fun F=>F.Ju jc fun H Q E u h y=>?_;obtain⟨d,x,b,J,rfl,tx,G,j,c⟩:=h;obtain⟨W,hv,ev,O,P,U⟩:=id G;have A:AV 4 _:=u.mono ⋯;have B:AV 3 _:=u.mono ⋯;have M:=Gq u;exists%[An (i:=2) jc.nd (Al (AS (Jb g) (pv 0) g.dc.cl A y.passes)),An (i:=3) jc.nd (Ay (Ja g) u rfl y.passes (#v[Al (pv 0),pv 1])),AK (az (OU M (pv 3) (pv 2))) (Ag (DZ (BW g) B.h rfl rfl y.weak)) Au|Aj (AE (#v[A8 M (pv 2) (pv 3)]))];exists _,rfl,d,W,_,rfl,O,De _ _ ∎ ∎,d,J,rfl,G;unfold PL;cases D:J.held with
 |none=>rw[WE D]at c;exact c rfl
 |some h=>
  cbv;rw[D]at U;obtain⟨w,e0,a0,a1,m,Y,Y,Y⟩:=U;rw[WD m D]at j c;intro e r k fs T S h4;have:w=r:=zt (m.symm.trans T);subst this;rw[T]at P;obtain⟨a,rfl,hA⟩:=P;obtain⟨de,pl,s,fl,Z,he,Y,C,Y⟩:=S.ex;refine⟨e,aE,de,_,_,rfl,he,g.ec.cl,g.ec.nN,km pl s fl Z,Ax ⟨_,rfl,d,aD,W,_,_,rfl,O,g.dc.cl,g.dc.nH,DM _ _,_,rfl,a,x,b,w,rfl,hA,tx,?_⟩⟩;cases R:w.readLine b with
  |error f=>rw[R]at c;exact c rfl _ g.Ho
  |ok p=>
   rw[R]at j c;dsimp only at j c;intro X t q n nt hP GB ep;refine Ax ?_;cbv;have v:h.graph.findIdx? (fun(z:Tafl.Pos)=>z==p)=if q∈k then some (k.idxOf q)else none:=by rw[h4,<-ep];exact LA GB k S.g.good
   have eb:X t=some (.tup ((EE q).map kV)):=hP;have I:CO X s (.ref t) (if q∈k then some (V.int ((k.idxOf q:Nat):Int))else none):=by have:=CO.t (n _ _ C) eb;rw[Qy]at this;exact this
   refine CS (DG ⟨_,rfl,_,rfl,s,_,rfl,I,_,rfl,?_⟩);by_cases hq:q∈k;·rw[zc hq]at v I;rw[v]at j;rw[zc hq];refine B8 rfl ⟨_,rfl,_,rfl,s,_,rfl,I,Js,fun l N=>?_⟩;have L:=n.trans (Af (o:= .lst [V.int ((k.idxOf q:Nat):Int)]) N);exact j _ l (G.same L) (fun b' o z Y=>L _ _ z) (n.free N) Aa
   ·rw[zb hq]at v;rw[v]at c;rw[zb hq];exact BI rfl (D_ (BW g) ((c rfl _ g.EM).same n))
inductive Ku(K:Frag)(C0 CD C CE:Addr):_|mk(d:Addr)(i:Nat)(s:TaflEnds.State):vs=[.ref d,.int (i:Nat)]->A_ CD C CE H d s->Out K C0 CD C CE d s (.value i) H Q E->Ku K C0 CD C CE vs H Q E
abbrev qY:List Str:=["self","number","value"]
theorem lN:Ah qY ["self","number"] (Ad Ms):={}
theorem NQ(g:AY):Zd 6 aD "tell_value" ["self","number"] (Ku K aZ aD aH aE):=by
 refine g.JO.has fun F=>F.Ju lN fun H Q E O h N=>?_;obtain⟨d,i,k,rfl,t,b,a⟩:=h;obtain⟨W,hv,ev,R,hV,D⟩:=id t;exists%[An (i:=2) lN.nd (Az AD (Al (AG (Fy g) (pv 0) g.dc.cl O N.passes (#v[pv 1]))) (pv 1)) |Aj (AE (#v[Ae,Az Be (pv 2) Ae,Az Be (pv 2) Ae]))];exists _,rfl,d,W,_,rfl,R,De _ _ ∎ ∎,_,rfl,d,i,k,rfl,t;have V:TaflEnds.step k (.value i)=ofHeld k fun Y h=>if h.graph.length<=i then says (-2)else tells 0 ((TaflEnds.toldValue (h.values.getD i none)).map fun(n:Nat)=> .num n):=rfl;rw[V]at b a;unfold N8;cases s:k.held with
 |none=>rw[DV s]at a;exact a rfl
 |some h=>
  cbv;rw[s]at D;obtain⟨Z,e0,I,T,u,Y,Y,Y⟩:=D;rw[DU u s]at b a;by_cases hi:h.graph.length<=i;·rw[zc hi]at a|-;exact a rfl
  ·rw[zb hi]at b a|-;intro e r J fs h1 C S q;obtain⟨X,L,M,U,x,P,Y,Y,Y,⟨j,m,f⟩⟩:=C.ex;have G:=C.Xq;have c:i<j.length:=by rw[zE f,G];exact q
   obtain⟨v,p,y⟩:=AA f (z4 c);have w:h.values.getD i none=v:=by rw[S];show(r.values (J.map pB)).getD i none=v;rw[z5,p];rfl
   rw[w]at b;refine⟨e,aE,X,_,_,rfl,P,g.ec.cl,g.ec.nW,G0 L M U x,_,rfl,x,_,_,.ref j[i],rfl,rfl,AI.of m,AM (by rw[z7,z4 c];rfl),Ax ⟨_,rfl,j[i],_,_,_,rfl,rfl,Em.of y,rfl,_,rfl,j[i],_,_,_,rfl,rfl,Em.of y,rfl,kX,fun l B=>?_⟩⟩;have A:=Af (o:= .lst [.int 0,.int (Cv v).1,.int (Cv v).2]) B;refine b _ l (t.same A) (fun b' o z Y=>A _ _ z) B ?_;rw[Aa];cases v<;>rfl
inductive LW(K:Frag)(C0 CD C CE:Addr):_|mk(d:Addr)(s:TaflEnds.State):vs=[.ref d]->A_ CD C CE H d s->Out K C0 CD C CE d s .sums H Q E->LW K C0 CD C CE vs H Q E
inductive Kv(K:Frag)(C0 CD C CE:Addr):_|mk(d:Addr)(s:TaflEnds.State):vs=[.ref d]->A_ CD C CE H d s->Out K C0 CD C CE d s .table H Q E->Kv K C0 CD C CE vs H Q E
theorem L5(l:List Nat):nV l=(asInts l).map V.int:=by unfold nV asInts;rw[zG];rfl
theorem Fi(l:List Nat):(tells 0 [.list l]).nums=0::((asInts l).length:Int)::asInts l:=by show 0::(((l.length:Int)::asInts l)++[])=_;rw[zR];unfold asInts;rw[z3]
theorem ou:Ah ["self"] ["self"] (Ad OB):={}
theorem Q4(i:AY):Zd 5 aD "tell_sums" ["self"] (LW K aZ aD aH aE):=by
 refine i.Lc.has fun F=>F.Ju ou fun H Q E q h P=>?_;obtain⟨d,l,rfl,w,a,f⟩:=h;obtain⟨dx,hv,ev,S,hV,C⟩:=id w;have m:AV 2 _:=q.mono ⋯;have n:AV 1 _:=q.mono ⋯;exists Ag (Aj (A9 Ed (AE (#v[Ae])) (Ay (E1 i) n rfl Ar (#v[AS (cb i) (AS (Jb i) (pv 0) i.dc.cl q P.passes) i.ec.cl m Ar]))));refine⟨Js,fun l0 t=>?_⟩;have j:=Af (o:= .lst [.int 0]) t;exists _,rfl,d,dx,_,rfl,j _ _ S,De _ _ ∎ ∎,d,l,rfl,w.same j;have Z:TaflEnds.step l .sums=ofHeld l fun Y h=>tells 0 [.list ([howMany h.values 0,howMany h.values 1,(h.values.filter fun(v:Tafl.Value)=>v==none).length]++(TaflEnds.greatest h.values 0++TaflEnds.greatest h.values 1))]:=rfl;rw[Z]at a f;unfold PL;cases u:l.held with
 |none=>rw[DV u]at f;exact(f rfl).same j
 |some h=>
  cbv;rw[u]at C;obtain⟨r0,e0,J,U,x,Y,Y,Y⟩:=C;rw[DU x u]at a;intro e r b W h1 B T;obtain⟨de,M,N,X,D,R,Y⟩:=B.ex;refine⟨e,de,_,rfl,R,gj M N X D,e,r,b,W,rfl,B,fun H2 O I n2 g=>?_⟩;rw[L5]at g;have el:h.values=r.values (b.map pB):=by rw[T]
  rw[el]at a;have k:([howMany (r.values (b.map pB)) 0,howMany (r.values (b.map pB)) 1,((r.values (b.map pB)).filter fun(v:Tafl.Value)=>v==none).length]++(TaflEnds.greatest (r.values (b.map pB)) 0++TaflEnds.greatest (r.values (b.map pB)) 1)).length=7:=rfl;generalize([howMany (r.values (b.map pB)) 0,howMany (r.values (b.map pB)) 1,((r.values (b.map pB)).filter fun(v:Tafl.Value)=>v==none).length]++(TaflEnds.greatest (r.values (b.map pB)) 0++TaflEnds.greatest (r.values (b.map pB)) 1))=L at g a k;rw[Fi]at a;have eL:(asInts L).length<=30000:=by unfold asInts;rw[z3,k];decide
  refine⟨O,asInts L,rfl,g,eL,fun H3 l3 G n3 s=>?_⟩;have c:=I.trans G;refine Qi (H0:=H) (c _ _ Aa) s (by simp only[zm];lia) fun p A=>?_;have y:=(j.trans c).trans (Af (o:= .lst ((0::((asInts L).length:Int)::asInts L).map V.int)) A);exact a _ p (w.same y) (fun b' o z Y=>y _ _ z) ((j.trans c).free A) Aa
theorem oq:Ah ["self"] ["self"] (Ad Mt):={}
theorem NR(g:AY):Zd 5 aD "tell_table" ["self"] (Kv K aZ aD aH aE):=by
 refine g.JP.has fun F=>F.Ju oq fun H Q E q h O=>?_;obtain⟨d,j,rfl,v,a,c⟩:=h;obtain⟨dx,hv,ev,R,hV,B⟩:=id v;have m:AV 2 _:=q.mono ⋯;have n:AV 1 _:=q.mono ⋯;exists Ag (Aj (A9 Ed (AE (#v[Ae])) (Ay (E1 g) n rfl Ar (#v[AS (Pn g) (AS (Jb g) (pv 0) g.dc.cl q O.passes) g.ec.cl m Ar]))));refine⟨Js,fun l0 t=>?_⟩;have i:=Af (o:= .lst [.int 0]) t;exists _,rfl,d,dx,_,rfl,i _ _ R,De _ _ ∎ ∎,d,j,rfl,v.same i;have X:TaflEnds.step j .table=ofHeld j fun Y h=>tells 0 [.list (h.values.map Tafl.code)]:=rfl;rw[X]at a c;unfold PL;cases u:j.held with
 |none=>rw[DV u]at c;exact(c rfl).same i
 |some h=>
  cbv;rw[u]at B;obtain⟨r0,e0,I,T,w,Y,Y,Y⟩:=B;rw[DU w u]at a;intro e r k U h1 l S;obtain⟨de,J,M,W,C,P,Y⟩:=l.ex;refine⟨e,de,_,rfl,P,T4 J M W C,e,r,k,U,rfl,l,fun H2 N G n2 f=>?_⟩;rw[L5]at f;have Z:h.values=r.values (k.map pB):=by rw[S]
  rw[Z]at a;have x:((r.values (k.map pB)).map Tafl.code).length<=200:=by rw[z3,l.Xq];exact l.g.small
  generalize(r.values (k.map pB)).map Tafl.code=L at f a x;rw[Fi]at a;have eL:(asInts L).length<=30000:=by unfold asInts;rw[z3];lia
  refine⟨N,asInts L,rfl,f,eL,fun H3 l3 D n3 s=>?_⟩;have b:=G.trans D;refine Qi (H0:=H) (b _ _ Aa) s (by simp only[zm];lia) fun p A=>?_;have y:=(i.trans b).trans (Af (o:= .lst ((0::((asInts L).length:Int)::asInts L).map V.int)) A);exact a _ p (v.same y) (fun b' o z Y=>y _ _ z) ((i.trans b).free A) Aa
inductive Wc(K:Frag)(C0 CD C CE:Addr):_|mk(d tl:Addr)(x:Str)(b:Bytes)(most:Nat)(tb:List Nat)(s:TaflEnds.State):vs=[.ref d,.int (most:Nat),.str x,.ref tl]->Tx x b->H tl=some (.lst ((asInts tb).map V.int))->A_ CD C CE H d s->Out K C0 CD C CE d s (.judge b most tb) H Q E->Wc K C0 CD C CE vs H Q E
abbrev t7:List Str:=["self","most","line","table","right"]
theorem lU:Ah t7 ["self","most","line","table"] (Ad ZT):={}
theorem VI{a:List Nat}:asInts a=asInts b↔a=b:=by
 constructor
 ·intro h;have:=zT (List.map Int.toNat) h;unfold asInts at this;rw[zG,zG]at this;have e:(Int.toNat∘fun(n:Nat)=>(n:Int))=id:=by funext n;rfl
  rw[e,sY,sY]at this;exact this
 ·intro h;rw[h]
theorem Yu(s:AY):Zd 10 aD "judge" ["self","most","line","table"] (Wc K aZ aD aH aE):=by
 refine s.SD.has fun F=>F.Ju lU fun H Q E y h R=>?_;obtain⟨d,tl,x,b,j,t,A,rfl,J,v,u,c,a⟩:=h;obtain⟨Z,hv,ev,T,hV,eV⟩:=id u;have w:AV 2 _:=y.mono ⋯;exists%[An (i:=4) lU.nd (AS (Pn s) (AG (KI s) (pv 0) s.dc.cl y R.passes (#v[pv 1,pv 2])) s.ec.cl w Ar) |Aj (D4 (Ao (jD y.units) (pv 3) (pv 4)) (AE (#v[Ae])) (AE (#v[Ae])))];exists _,rfl,d,Z,_,rfl,T,De _ _ ∎ ∎,_,rfl,_,rfl,d,x,b,j,A,rfl,J,u;rw[MY]at c a;unfold gN;cases C:A.rules with
 |none=>rw[C]at a;exact a rfl
 |some r=>
  rw[C]at c a;dsimp only at c a|-;cases D:r.readLine b with
  |error f=>rw[D]at a;exact a rfl
  |ok p=>
   rw[D]at c a;dsimp only at c a|-;by_cases hm:j=0\/200<j;·rw[zc hm]at a|-;exact a rfl
   ·rw[zb hm]at c a|-;cases B:graphOf r j p with
    |none=>rw[B]at a;exact a rfl
    |some g=>
     rw[B]at c;dsimp only at c;intro H1 e N U G W M ne;obtain⟨de,O,P,V,I,S,Y⟩:=G.ex;refine⟨e,de,_,rfl,S,T4 O P V I,e,r,N,U,rfl,G,fun H2 l2 L n2 n=>?_⟩;refine Ax ?_;rw[L5,W]at n;have k:=M.trans L;exists _,rfl,_,rfl,.list ((asInts t).map PyData.int),.list ((asInts ((r.values g).map Tafl.code)).map PyData.int),.lst (AI.of (k _ _ v)) (QJ _),.lst (AI.of n) (QJ _),shaped_ints _,shaped_ints _,_,rfl;have X:PyData.eqv (.list ((asInts t).map PyData.int)) (.list ((asInts ((r.values g).map Tafl.code)).map PyData.int))=decide ((r.values g).map Tafl.code=t):=by show PyData.eqvAll _ _=_;rw[Tz,y3,VI];exact⟨Eq.symm,Eq.symm⟩
     rw[X];by_cases hq:(r.values g).map Tafl.code=t;·rw[zc hq]at c;refine BI (zj hq) ⟨Js,fun l q=>?_⟩;have m:=k.trans (Af (o:= .lst [.int 1]) q);exact c _ l (u.same m) (fun b' o z Y=>m _ _ z) (k.free q) Aa
     ·rw[zb hq]at c;refine B8 (zo hq) ⟨Js,fun l q=>?_⟩;have m:=k.trans (Af (o:= .lst [.int 0]) q);exact c _ l (u.same m) (fun b' o z Y=>m _ _ z) (k.free q) Aa
theorem OV{r:Rules}{p:Tafl.Pos}:r.over p=0↔r.moves p≠[]:=by
 unfold Rules.over;by_cases h:r.ended p≠0;·rw[zc h];unfold Rules.moves;rw[zc h];simp[h]
 ·rw[zb h];by_cases h2:r.moves p=[];·rw[zc h2];simp[h2]
  ·rw[zb h2];simp[h2]
theorem KN{f i:Type}(F:f->Option i):∀(a:List f)(c:Nat)(m:f)(y:i),a[c]?=some m->F m=some y->(∀e d,e<c->a[e]?=some d->F d=none)->a.findSome? F=some y|[],c,m,y,h,_,_=>by cases h|x::a,0,m,y,h,g,_=>by cases h;rw[wz,g] |x::a,c+1,m,y,h,g,b=>by rw[wz,b 0 x (Nat.succ_pos c) rfl];exact KN F a c m y ‹h› g fun e d k j=>b (e+1) d ∅ ‹j›
theorem bU{x:Bd}:∀{l:List Bd},x∈l->l[l.idxOf x]?=some x
|[],h=>by cases h
|y::l,h=>by
 rw[um];by_cases e:y=x;·rw[zP.mpr e,cond_true,e];rfl
 ·rw[zL.mpr e,rm];have a:x∈l:=by
   rcases zw.mp h with z|z;·exact absurd z.symm e
   ·exact z
  simpa using bU a
theorem gB{r:Rules}{a:List Bd}{l:List (List Nat)}(G:EA r a l){j:Nat}{q:Bd}(k:a[i]?=some q)(u:(l.getD i [])[c]?=some j)(C:good ((r.values (a.map pB)).getD i none) ((r.values (a.map pB)).getD j none)=true)(o:∀b t:Nat,b<c->(l.getD i [])[b]?=some t->¬good ((r.values (a.map pB)).getD i none) ((r.values (a.map pB)).getD t none)=true):∃m,(r.moves (pB q))[c]?=some m/\r.best (a.map pB) (r.values (a.map pB)) i=some (m,j)/\a[j]?=some (NB r q.1 m,1-q.2)/\r.comes (pB q) m=pB (NB r q.1 m,1-q.2)/\Cu r (NB r q.1 m,1-q.2):=by
 have f:q∈a:=zf k;have n:=G.good q f;have h:∀(b:Nat)(m:Nat×Nat),(r.moves (pB q))[b]?=some m->(l.getD i [])[b]?=some (a.idxOf (NB r q.1 m,1-q.2))/\(a.map pB).findIdx? (fun(x:Tafl.Pos)=>x==r.comes (pB q) m)=some (a.idxOf (NB r q.1 m,1-q.2))/\(NB r q.1 m,1-q.2)∈a/\r.comes (pB q) m=pB (NB r q.1 m,1-q.2)/\Cu r (NB r q.1 m,1-q.2):=fun b m e=>by
  have g:=zf e;have nx:(NB r q.1 m,1-q.2)∈Bj r q:=zk.mpr ⟨m,g,rfl⟩;have d:=G.jR q f _ nx;have v:=G.good _ d;have y:r.comes (pB q) m=pB (NB r q.1 m,1-q.2):=(dg G.Z G.N n.b n.r n.t (GP n g)).2.2;refine⟨?_,?_,d,y,v⟩;·rw[G.Ze i q k];unfold Bj;rw[z7,z7,e];rfl
  ·rw[y,LA v a G.good,zc d]
 have B:c<(r.moves (pB q)).length:=by have:=(z8.mp u).1;rw[G.Ze i q k]at this;unfold Bj at this;rw[z3,z3]at this;exact this
 obtain⟨m,e⟩:∃m,(r.moves (pB q))[c]?=some m:=⟨_,z4 B⟩;obtain⟨z,J,I,H,F⟩:=h c m e;rw[u]at z;have w:j=a.idxOf (NB r q.1 m,1-q.2):=zt z;refine⟨m,e,?_,?_,H,F⟩
 ·unfold Rules.best;rw[z7,k];show(r.moves (pB q)).findSome? _=_;refine KN _ _ c m (m,j) e ?_ fun b A s p=>?_;·rw[J];cbv;rw[<-w,zc C]
  ·obtain⟨E,D,Y⟩:=h b A p;rw[D];cbv;rw[zb (o b _ s E)]
 ·rw[w];exact bU I
inductive LY(K:Frag)(C0 CD C CE:Addr):_|mk(d:Addr)(i:Nat)(s:TaflEnds.State):vs=[.ref d,.int (i:Nat)]->A_ CD C CE H d s->Out K C0 CD C CE d s (.best i) H Q E->LY K C0 CD C CE vs H Q E
abbrev ri:List Str:=["self","number","ending","position","choice","move","later","over"]
theorem U7:Ah ri ["self","number"] (Ad OD):={}
theorem Q6(g:AY):Zd 7 aD "tell_best" ["self","number"] (LY K aZ aD aH aE):=by
 refine g.Le.has fun F=>F.Ju U7 fun H Q E Z h hx=>?_;obtain⟨d,i,st,rfl,hD,n,k⟩:=h;obtain⟨dx,hv,ev,hd,hV,eV⟩:=id hD;have B:AV 5 _:=Z.mono ⋯;have a9:AV 3 _:=Z.mono ⋯;have X:AV 1 _:=Z.mono ⋯;exists%[An (i:=2) U7.nd (AG (Fy g) (pv 0) g.dc.cl B hx.passes (#v[pv 1])),An (i:=3) U7.nd (Az AD (Al (pv 2)) (pv 1)),AK (Ao Hr (Ay (Nd g) Z rfl Ar (#v[Al (pv 0),pv 3])) Ae) (Ag (DZ (FC g) a9.h rfl rfl hx.weak)) Au,An (i:=4) U7.nd (AG (ck g) (pv 2) g.ec.cl X Ar (#v[pv 1])),An (i:=5) U7.nd (Az AD (Ay (JX g) B rfl Ar (#v[Al (pv 0),pv 3])) (pv 4)),An (i:=6) U7.nd (Az AD (Az AD (Al (pv 2)) (pv 1)) (pv 4)),An (i:=7) U7.nd (Ay (Nd g) Z rfl Ar (#v[Al (pv 0),Az AD (Al (pv 2)) (pv 6)])) |Aj (A9 Ed (AE (#v[Ae,pv 6])) (Ay (E1 g) X rfl Ar (#v[A9 Ed (AE (#v[Az Be (pv 5) Ae,Az Be (pv 5) Ae,pv 7])) (Ay (SX g) B rfl Ar (#v[Al (pv 0),pv 3,pv 5]))])))];exists _,rfl,d,dx,_,rfl,hd,De _ _ ∎ ∎,_,rfl,d,i,st,rfl,hD;have es:TaflEnds.step st (.best i)=ofHeld st fun r h=>match h.graph[i]? with|none=>says (-2) |some p=>match r.best h.graph h.values i with|none=>says (-4) |some (m,j)=>tells 0 [.num j,.list (toldMove r p m)]:=rfl;rw[es]at n k;unfold N8;cases hh:st.held with
 |none=>rw[DV hh]at k;exact k rfl
 |some h=>
  cbv;rw[hh]at eV;obtain⟨f,e0,c8,c9,a6,Y,Y,Y⟩:=eV;rw[DU a6 hh]at n k;by_cases hi:h.graph.length<=i;·rw[zc hi];rw[xX hi]at k;exact k rfl
  ·rw[zb hi];intro e r y fs h1 hE h4 D;have:f=r:=zt (a6.symm.trans h1);subst this;rw[h1]at hV;obtain⟨a,rfl,hA⟩:=hV;have G:=hE.g;obtain⟨de,I,nd,fl,wl,he,⟨x,a2,v⟩,Y,⟨gs,f1,f2,Y⟩,Y⟩:=hE.ex;obtain⟨q,J⟩:∃q,y[i]?=some q:=⟨_,z4 D⟩;have S:i<x.length:=by rw[zE v];exact D
   obtain⟨q',a1,hP⟩:=AA v (z4 S);rw[J]at a1;cases a1;have s:=G.good q (zf J);have eg:h.graph[i]?=some (pB q):=by rw[h4];show(y.map pB)[i]?=_;rw[z7,J];rfl
   have c6:h.graph=y.map pB:=by rw[h4]
   have c5:h.values=f.values (y.map pB):=by rw[h4]
   rw[eg,c6,c5]at n k;dsimp only at n k;refine Ax ⟨_,rfl,e,aE,de,_,_,rfl,he,g.ec.cl,g.ec.nP,Nt I nd fl wl,_,rfl,I,_,_,.ref x[i],rfl,rfl,AI.of a2,AM (by rw[z7,z4 S];rfl),Ax ?_⟩;cbv;refine CS (DG ⟨_,rfl,d,aD,dx,_,_,rfl,hd,g.dc.cl,g.dc.nH,DM _ _,_,rfl,a,x[i],f,q.1,q.2,rfl,hA,hP,s.b,s.r,s.t,fun H1 s1=>⟨rfl,_,rfl,?_⟩⟩);by_cases ho:f.over (pB q)=0
   ·refine B8 (by rw[show Aq q.1 q.2=pB q from rfl,ho];decide) ?_;have C:=OV.mp ho;have b0:Bj f q≠[]:=by unfold Bj;rw[Ne,ya];exact C
    refine⟨_,rfl,e,de,_,rfl,s1 _ _ he,gk I nd fl wl,_,rfl,e,f,y,fs,i,q,rfl,hE.kp (GD s1),J,b0,fun H2 c j s2 hc hg b1=>?_⟩;refine Ax ?_;cbv;obtain⟨m,hm,hb,hj,b9,GJ⟩:=gB G J hc hg b1;rw[hb]at n;dsimp only at n;have u:=s1.trans s2;refine⟨_,rfl,d,aD,dx,_,_,rfl,u _ _ hd,g.dc.cl,g.dc.nH,DM _ _,_,rfl,a,x[i],f,q.1,q.2,rfl,hA.same u,u _ _ hP,s.b,s.r,s.t,fun H3 lm s3 n3 hM=>?_⟩;obtain⟨M,b2,a3⟩:=hM;have W:c<M.length:=by rw[zE a3];exact(z8.mp hm).1
    obtain⟨b,b3,c3⟩:=AA a3 (z4 W);have:b=m:=by have z:(f.moves (pB q))[c]?=some b:=b3;rw[hm]at z;exact(zt z).symm
    subst this;refine⟨_,rfl,lm,_,_,.ref M[c],rfl,rfl,AI.of b2,AM (by rw[z7,z4 W];rfl),Ax ?_⟩;cbv;have l:=u.trans s3;have U:i<gs.length:=by rw[zE f2,G.len];exact D
    obtain⟨c4,b8,b7⟩:=AA f2 (z4 U);have c7:fs.getD i []=c4:=by rw[z5,b8];rfl
    rw[c7]at hc;refine⟨_,rfl,e,aE,de,_,_,rfl,l _ _ he,g.ec.cl,g.ec.nF,cK I nd fl wl,_,rfl,fl,_,_,.ref gs[i],rfl,rfl,AI.of (l _ _ f1),AM (by rw[z7,z4 U];rfl),_,rfl,gs[i],_,_,.int (j:Nat),rfl,rfl,AI.of (l _ _ b7),AM (by unfold nV;rw[z7,hc];rfl),Ax ?_⟩;cbv;have a8:j<y.length:=(z8.mp hj).1;have T:j<x.length:=by rw[zE v];exact a8
    obtain⟨qj,a0,c0⟩:=AA v (z4 T);rw[hj]at a0;have:=zt a0;subst this;refine⟨_,rfl,d,aD,dx,_,_,rfl,l _ _ hd,g.dc.cl,g.dc.nH,DM _ _,_,rfl,e,aE,de,_,_,rfl,l _ _ he,g.ec.cl,g.ec.nP,Nt I nd fl wl,_,rfl,I,_,_,.ref x[j],rfl,rfl,AI.of (l _ _ a2),AM (by rw[z7,z4 T];rfl),a,x[j],f,_,_,rfl,hA.same l,l _ _ c0,GJ.b,GJ.r,GJ.t,fun H4 s4=>?_⟩;refine Ax ?_;cbv;have P:=l.trans s4;have t:H_ H4 M[c] b.1 b.2:=s4 _ _ c3;obtain⟨MO,c1,c2,Y⟩:=Qs (m1:=b.1) (m2:=b.2) G.Z s.b s.r s.t (GP s (zf hm));refine⟨_,rfl,K0,fun l0 b6=>?_⟩;have s5:=Af (o:= .lst [.int 0,.int (j:Nat)]) b6;refine⟨_,rfl,M[c],_,_,.int (b.1:Nat),rfl,rfl,Em.of (s5 _ _ t),rfl,_,rfl,M[c],_,_,.int (b.2:Nat),rfl,rfl,Em.of (s5 _ _ t),rfl,_,rfl,kX,fun l1 a5=>?_⟩;have s6:=s5.trans (Af (o:= .lst [.int (b.1:Nat),.int (b.2:Nat),.int (f.over (Aq (NB f q.1 b) (1-q.2)):Nat)]) a5);have A:=P.trans s6;refine⟨_,rfl,d,aD,dx,_,_,rfl,A _ _ hd,g.dc.cl,g.dc.nH,DM _ _,_,rfl,_,rfl,a,x[i],M[c],f,q.1,q.2,b.1,b.2,rfl,hA.same A,A _ _ hP,s6 _ _ t,s.b.len,MO.l1,c2,fun H7 l7 s7 n7 w=>?_⟩;rw[<-LQ G.Z G.N s.b MO c2]at w;have a7:(f.takes (Aq q.1 q.2) (b.1,b.2)).length<=192:=by rw[LQ G.Z G.N s.b MO c2];exact z_ (xy _ _) (by rw[yj];exact ze _)
    replace w:H7 l7=some (.lst (nV (f.takes (pB q) b))):=w;replace a7:(f.takes (pB q) b).length<=192:=a7;have a4:H7 l1=some (.lst (nV [b.1,b.2,f.over (f.comes (pB q) b)])):=by rw[b9];exact s7 _ _ Aa
    refine⟨l1,l7,_,_,rfl,rfl,a4,w,?_,fun l8 b5=>?_⟩;·unfold nV;rw[z3,z3];have:(1000:Nat)<=sizeLine:=⋯;show 3+_<=_;lia
    ·have e8:nV [b.1,b.2,f.over (f.comes (pB q) b)]++nV (f.takes (pB q) b)=(asInts (toldMove f (pB q) b)).map V.int:=by rw[<-L5];rfl
     rw[e8];have eL:(asInts (toldMove f (pB q) b)).length<=200:=by unfold asInts toldMove;rw[z3];simp only[zm];lia
     have en:(tells 0 [.num (j:Nat),.list (toldMove f (pB q) b)]).nums=[0,((j:Nat):Int)]++(((asInts (toldMove f (pB q) b)).length:Int)::asInts (toldMove f (pB q) b)):=by show 0::([((j:Nat):Int)]++((((toldMove f (pB q) b).length:Int)::asInts (toldMove f (pB q) b))++[]))=_;rw[zR];unfold asInts;rw[z3];rfl
     rw[en]at n;generalize asInts (toldMove f (pB q) b)=L at eL n|-;have s8:=Af (o:= .lst (L.map V.int)) b5;refine⟨l8,L,rfl,Aa,∅,fun H9 l9 s9 n9 b4=>?_⟩;have N:Ap (Av H4 l0 (.lst [.int 0,.int (j:Nat)])) H9:=(((Af (o:= .lst [.int (b.1:Nat),.int (b.2:Nat),.int (f.over (Aq (NB f q.1 b) (1-q.2)):Nat)]) a5).trans s7).trans s8).trans s9;refine⟨l0,l9,_,_,rfl,rfl,N _ _ Aa,b4,?_,fun p hp=>?_⟩;·rw[z3];have:(1000:Nat)<=sizeLine:=⋯;show 2+(L.length+1)<=_;lia
     ·have O:=(P.trans s5).trans N;have R:=O.trans (Af (o:= .lst ([.int 0,.int (j:Nat)]++((L.length:Int)::L).map V.int)) hp);exact n _ p (hD.same R) (fun b' o z Y=>R _ _ z) (O.free hp) Aa
   ·refine BI (by rw[show Aq q.1 q.2=pB q from rfl,xD,yY];intro z;injection z with z;lia) ?_;have C:f.moves (pB q)=[]:=vp fun z=>ho (OV.mpr z);have hb:f.best (y.map pB) (f.values (y.map pB)) i=none:=by unfold Rules.best;rw[z7,J];show(f.moves (pB q)).findSome? _=_;rw[C];rfl
    rw[hb]at k;exact D_ (FC g) ((k rfl _ g.NK).same s1)
abbrev bInts(b:Bytes):List Int:=b.map fun u=>((u.toNat:Nat):Int)
def VP(ns:List Int)(p:Nat)(c:Call)(d:Nat):Prop:=match c with| .rules b=>ns[p]?=some 0/\ns[p+1]?=some (b.length:Int)/\p+1+1+b.length<=ns.length/\(ns.drop (p+1+1)).take b.length=bInts b/\d=p+1+1+b.length| .find b a=>ns[p]?=some 1/\ns[p+1]?=some (a:Int)/\ns[p+1+1]?=some (b.length:Int)/\p+1+1+1+b.length<=ns.length/\(ns.drop (p+1+1+1)).take b.length=bInts b/\d=p+1+1+1+b.length| .pos i=>ns[p]?=some 2/\ns[p+1]?=some (i:Int)/\d=p+1+1| .no b=>ns[p]?=some 3/\ns[p+1]?=some (b.length:Int)/\p+1+1+b.length<=ns.length/\(ns.drop (p+1+1)).take b.length=bInts b/\d=p+1+1+b.length| .value i=>ns[p]?=some 4/\ns[p+1]?=some (i:Int)/\d=p+1+1| .best i=>ns[p]?=some 5/\ns[p+1]?=some (i:Int)/\d=p+1+1| .sums=>ns[p]?=some 6/\d=p+1| .table=>ns[p]?=some 7/\d=p+1| .judge b a t=>ns[p]?=some 8/\ns[p+1]?=some (a:Int)/\ns[p+1+1]?=some (b.length:Int)/\p+1+1+1+b.length<=ns.length/\(ns.drop (p+1+1+1)).take b.length=bInts b/\ns[p+1+1+1+b.length]?=some (t.length:Int)/\p+1+1+1+b.length+1+t.length<=ns.length/\(ns.drop (p+1+1+1+b.length+1)).take t.length=asInts t/\d=p+1+1+1+b.length+1+t.length
theorem drop_cons{z:Int}{r:List Int}(h:ns.drop p=z::r):ns[p]?=some z/\r=ns.drop (p+1):=by
 refine⟨?_,?_⟩;·rw[<-tI,h];rfl
 ·rw[<-xr,h];rfl
inductive dq(ns:List Int)(q:Nat)(x l:List Int):Prop|mk(n:Nat):ns[q]?=some (n:Int)->q+1+n<=ns.length->x=(ns.drop (q+1)).take n->x.length=n->l=ns.drop (q+1+n)->dq ns q x l
inductive dn(ns:List Int)(q:Nat)(xs:List (List Int))(l:List Int):Prop|mk(x y:List Int)(n m:Nat):xs=[x,y]->ns[q]?=some (n:Int)->q+1+n<=ns.length->x=(ns.drop (q+1)).take n->x.length=n->ns[q+1+n]?=some (m:Int)->q+1+n+1+m<=ns.length->y=(ns.drop (q+1+n+1)).take m->y.length=m->l=ns.drop (q+1+n+1+m)->dn ns q xs l
inductive dB(ns:List Int)(p:Nat)(c:List (List Int))(t:List Int):Prop|mk(tc:Call)(p':Nat):TaflEndsNeutral.callOf (PyWqacdc.whole c)=some tc->VP ns p tc p'->t=ns.drop p'->p<p'->p'<=ns.length->dB ns p c t
theorem W0{x t:List Int}(h:PyFlat.row (ns.drop p)=some (x,t)):dq ns p x t:=by
 cases e:ns.drop p with
 |nil=>rw[e]at h;cases h
 |cons z r=>
  rw[e]at h;obtain⟨b,a⟩:=drop_cons e;replace h:(if 0<=z/\z.toNat<=r.length then some (r.take z.toNat,r.drop z.toNat)else none)=some (x,t):=h;split at h
  ·rename_i q;have d:p<ns.length:=(z8.mp b).1;have c:r.length=ns.length-(p+1):=by rw[a,yI]
   injection h with h;injection h with h3 h4;refine⟨z.toNat,by rw[b,uE q.1],∅,by rw[<-h3,a],by rw[<-h3,zO];lia,by rw[<-h4,a,xr]⟩
  ·cases h
theorem Jl{x:List Int}(h:x.all (fun(z:Int)=>decide (0<=z)&&decide (z<=255))=true):∃b:Bytes,Tafl.text? x=some b/\x=bInts b/\b.length=x.length:=by
 refine⟨x.map fun(n:Int)=>UInt8.ofNat n.toNat,?_,?_,by rw[z3]⟩;·unfold Tafl.text?;rw[zc (show NeutralIO.bytes x=true from h)]
 ·unfold bInts;rw[zG];symm;conv=>rhs;rw[<-sY x]
  apply y6;intro z a;rw[yq]at h;have:=h z a;rw[zp,zq,zq]at this;show(((UInt8.ofNat z.toNat).toNat:Nat):Int)=z;rw[rp];have:z.toNat%2^8=z.toNat:=xn ∅;rw[this];lia
theorem eP{x:List Int}(h:x.all (fun(z:Int)=>decide (0<=z))=true):∃t:List Nat,row? x=some t/\x=asInts t/\t.length=x.length:=by
 induction x with
 |nil=>exact⟨[],rfl,rfl,rfl⟩
 |cons z x b=>
  rw[wY,zp,zq]at h;obtain⟨t,a,d,c⟩:=b h.2;refine⟨z.toNat::t,?_,?_,by rw[zm,zm,c]⟩;·unfold row? at a|-;rw[List.mapM_cons,a];unfold nat?;rw[zc h.1];rfl
  ·show z::x=((z.toNat:Nat):Int)::asInts t;rw[<-d,uE h.1]
theorem MK{z:Int}(h:decide (0<=z)=true):nat? z=some z.toNat/\z=((z.toNat:Nat):Int):=by rw[zq]at h;unfold nat?;exact⟨zc h,(uE h).symm⟩
theorem Wz{q:Nat}{l:List Int}{xs:List (List Int)}(h:PyFlat.rows 1 (ns.drop q)=some (xs,l)):∃x,xs=[x]/\dq ns q x l:=by replace h:(match PyFlat.row (ns.drop q)with|none=>none|some (x,s)=>some ([x],s))=some (xs,l):=h;cases a:PyFlat.row (ns.drop q)with|none=>rw[a]at h;cases h|some y=>rw[a]at h;obtain⟨x,s⟩:=y;cases h;exact⟨x,rfl,W0 a⟩
theorem ml{q:Nat}{l:List Int}{xs:List (List Int)}(h:PyFlat.rows 2 (ns.drop q)=some (xs,l)):dn ns q xs l:=by replace h:(match PyFlat.row (ns.drop q)with|none=>none|some (x,s)=>match PyFlat.rows 1 s with|none=>none|some (xs,t)=>some (x::xs,t))=some (xs,l):=h;cases a:PyFlat.row (ns.drop q)with|none=>rw[a]at h;cases h|some y=>rw[a]at h;obtain⟨x,s⟩:=y;obtain⟨n,o,k,j,i,rfl⟩:=W0 a;dsimp only at h;cases b:PyFlat.rows 1 (ns.drop (q+1+n))with|none=>rw[b]at h;cases h|some v=>rw[b]at h;obtain⟨p,u⟩:=v;cases h;obtain⟨y,rfl,m,g,f,e,d,c⟩:=Wz b;exact⟨x,y,n,m,rfl,o,k,j,i,g,f,e,d,c⟩
theorem Wy{k:Nat}{z:Int}{c:List (List Int)}{t:List Int}(h:(if(ns.drop (p+1)).length<0 then none else match PyFlat.rows k ((ns.drop (p+1)).drop 0)with|none=>none|some (xs,t)=>some ((z::(ns.drop (p+1)).take 0)::xs,t))=some (c,t)):∃xs,PyFlat.rows k (ns.drop (p+1))=some (xs,t)/\c=[z]::xs:=by rw[zb ∅,xK]at h;cases a:PyFlat.rows k (ns.drop (p+1))with|none=>rw[a]at h;cases h|some y=>rw[a]at h;obtain⟨xs,s⟩:=y;cases h;exact⟨xs,rfl,rfl⟩
theorem RW{k:Nat}{z:Int}{c:List (List Int)}{t:List Int}(h:(if(ns.drop (p+1)).length<1 then none else match PyFlat.rows k ((ns.drop (p+1)).drop 1)with|none=>none|some (xs,t)=>some ((z::(ns.drop (p+1)).take 1)::xs,t))=some (c,t)):∃y xs,ns[p+1]?=some y/\PyFlat.rows k (ns.drop (p+1+1))=some (xs,t)/\c=[z,y]::xs:=by
 split at h;·cases h
 ·rename_i a;rw[yI]at a;have d:ns[p+1]?=some ns[p+1]:=z4 ∅;rw[xr]at h;cases b:PyFlat.rows k (ns.drop (p+1+1))with|none=>rw[b]at h;cases h|some y=>rw[b]at h;obtain⟨xs,s⟩:=y;cases h;exists _,xs,d,rfl;rw[yf ∅,xE,wI]
theorem gz{c:List (List Int)}{t:List Int}(h:PyFlat.call PyWqacdc.shape (ns.drop p)=some (c,t))(d:TaflEndsNeutral.asked1 (PyWqacdc.whole c)=true):dB ns p c t:=by
 cases e:ns.drop p with
 |nil=>rw[e]at h;cases h
 |cons z r=>
  rw[e]at h;obtain⟨g,J⟩:=drop_cons e;have F:p<ns.length:=(z8.mp g).1;replace h:(match PyWqacdc.shape z with|none=>none|some (n,k)=>if r.length<n then none else match PyFlat.rows k (r.drop n)with|none=>none|some (xs,t)=>some ((z::r.take n)::xs,t))=some (c,t):=h;subst J;have C:z=0\/z=1\/z=2\/z=3\/z=4\/z=5\/z=6\/z=7\/z=8:=by
   apply vp;intro P;have:PyWqacdc.shape z=none:=by unfold PyWqacdc.shape;rw[zb ∅,zb ∅,zb ∅,zb ∅,zb ∅,zb ∅,zb ∅,zb ∅,zb ∅]
   rw[this]at h;cases h
  rcases C with rfl|rfl|rfl|rfl|rfl|rfl|rfl|rfl|rfl;·obtain⟨xs,a,rfl⟩:=Wy (k:=1) h;obtain⟨x,rfl,n,w,i,v,D,A⟩:=Wz a;obtain⟨b,q,o,B⟩:=Jl (show x.all _=true from d);have s:n=b.length:=∅;subst s;exact⟨.rules b,_,by show(Tafl.text? x).map _=_;rw[q];rfl,⟨g,w,i,by rw[<-v];exact o,rfl⟩,A,∅,i⟩
  ·obtain⟨y,xs,f,a,rfl⟩:=RW (k:=1) h;obtain⟨x,rfl,n,w,i,v,D,A⟩:=Wz a;replace d:(decide (0<=y)&&x.all (fun(z:Int)=>decide (0<=z)&&decide (z<=255)))=true:=d;rw[zp]at d;obtain⟨b,q,o,B⟩:=Jl d.2;obtain⟨l,j⟩:=MK d.1;have s:n=b.length:=∅;subst s;exact⟨.find b y.toNat,_,by
    show(do
     return Call.find (<-Tafl.text? x) (<-nat? y))=_;rw[q,l];rfl,⟨g,by rw[<-j];exact f,w,i,by rw[<-v];exact o,rfl⟩,A,∅,i⟩
  ·obtain⟨y,xs,f,a,rfl⟩:=RW (k:=0) h;cases a;obtain⟨l,j⟩:=MK (show decide (0<=y)=true from d);exact⟨.pos y.toNat,_,by show(nat? y).map _=_;rw[l];rfl,⟨g,by rw[<-j];exact f,rfl⟩,rfl,∅,(z8.mp f).1⟩
  ·obtain⟨xs,a,rfl⟩:=Wy (k:=1) h;obtain⟨x,rfl,n,w,i,v,D,A⟩:=Wz a;obtain⟨b,q,o,B⟩:=Jl (show x.all _=true from d);have s:n=b.length:=∅;subst s;exact⟨.no b,_,by show(Tafl.text? x).map _=_;rw[q];rfl,⟨g,w,i,by rw[<-v];exact o,rfl⟩,A,∅,i⟩
  ·obtain⟨y,xs,f,a,rfl⟩:=RW (k:=0) h;cases a;obtain⟨l,j⟩:=MK (show decide (0<=y)=true from d);exact⟨.value y.toNat,_,by show(nat? y).map _=_;rw[l];rfl,⟨g,by rw[<-j];exact f,rfl⟩,rfl,∅,(z8.mp f).1⟩
  ·obtain⟨y,xs,f,a,rfl⟩:=RW (k:=0) h;cases a;obtain⟨l,j⟩:=MK (show decide (0<=y)=true from d);exact⟨.best y.toNat,_,by show(nat? y).map _=_;rw[l];rfl,⟨g,by rw[<-j];exact f,rfl⟩,rfl,∅,(z8.mp f).1⟩
  ·obtain⟨xs,a,rfl⟩:=Wy (k:=0) h;cases a;exact⟨.sums,_,rfl,⟨g,rfl⟩,rfl,∅,F⟩
  ·obtain⟨xs,a,rfl⟩:=Wy (k:=0) h;cases a;exact⟨.table,_,rfl,⟨g,rfl⟩,rfl,∅,F⟩
  ·obtain⟨y,xs,f,a,rfl⟩:=RW (k:=2) h;obtain⟨x,u,n,m,rfl,w,i,v,D,N,G,M,Q,L⟩:=ml a;replace d:(decide (0<=y)&&(x.all (fun(z:Int)=>decide (0<=z)&&decide (z<=255))&&u.all (fun(z:Int)=>decide (0<=z))))=true:=d;rw[zp,zp]at d;obtain⟨b,q,o,B⟩:=Jl d.2.1;obtain⟨E,I,H,O⟩:=eP d.2.2;obtain⟨l,j⟩:=MK d.1;have s:n=b.length:=∅;have K:m=E.length:=∅;subst s K;exact⟨.judge b y.toNat E,_,by
    show(do
     return Call.judge (<-Tafl.text? x) (<-nat? y) (<-row? u))=_;rw[q,l,I];rfl,⟨g,by rw[<-j];exact f,w,i,by rw[<-v];exact o,N,G,by rw[<-M];exact H,rfl⟩,L,∅,G⟩
def gL(f d:Addr)(H H':Hp):Prop:=∀b o,H b=some o->b≠f->b≠d->H' b=some o
theorem mU{j k d i h b:Addr}{c g:V}(a:H f=some (.ins j i (QG b p)))(e:H d=some (.ins k h (V3 c g))):f≠d:=fun z=>by rw[z,e]at a;injection a with h1;injection h1 with _ _ h1;injection h1 with h1 _;injection h1 with h1 _;exact absurd h1 ∎
structure nc(K:Frag)(C0 CF CD C CE d f la:Addr)(ns:List Int)(s:TaflEnds.State)(c:Call)(p':Nat)(H:Hp)(Q:VK)(E:XK):Prop where
 ok:∀H' l,Eo K CF H' f la ns p'->A_ CD C CE H' d (TaflEnds.step s c).1->gL f d H H'->H l=none->H' l=some (.lst ((TaflEnds.step s c).2.nums.map V.int))->Q (.ref l) H'
 no:∀CX,dH K C0 CX->∀H' dx l,H' dx=some (.xd [("told",.ref l)])->Eo K CF H' f la ns p'->A_ CD C CE H' d (TaflEnds.step s c).1->gL f d H H'->H l=none->H' l=some (.lst ((TaflEnds.step s c).2.nums.map V.int))->E (.ref CX) (some dx) H'
theorem Ft{M L A y d u:Addr}{s:TaflEnds.State}{c:Call}{B:Nat}{h:Hp}{Q:VK}{E:XK}(k:nc K M L A C y d f u ns s c B H Q E)(P:Eo K L h f u ns B)(I:A_ A C y h d s)(w:DA f H h)(r:d≠u):Out K M A C y d s c h Q E:=by
 obtain⟨⟨g,j⟩,a,F,G⟩:=P;obtain⟨J,W,X,O,Y,Y⟩:=id I;have p:=mU j O;have D:∀{l:Addr},h l=none->H l=none:=fun{l} z=>by
  cases q:H l with
  |none=>rfl
  |some o=>
   have:=w l o q fun e=>by rw[e,j]at z;cases z
   rw[z]at this;cases this
 refine⟨fun H' l v x t N=>?_,fun S V R H' J l U T t i=>?_⟩;·exact k.ok H' l ⟨⟨g,x _ _ j p⟩,AI.but x (zN r) a,F,G⟩ v (fun b o e n m=>x b o (w b o e n) m) (D t) N
 ·exact k.no V R H' J l U ⟨⟨g,i _ _ j⟩,i.seq a,F,G⟩ (by rw[S];exact I.same i) (fun b o e n Y=>i b o (w b o e n)) (D t) T
inductive PZ(K:Frag)(C0 CF CD C CE:Addr):_|mk(d f la:Addr)(ns:List Int)(p p':Nat)(s:TaflEnds.State)(c:Call):vs=[.ref d,.ref f]->Eo K CF H f la ns p->d≠la->A_ CD C CE H d s->VP ns p c p'->nc K C0 CF CD C CE d f la ns s c p' H Q E->PZ K C0 CF CD C CE vs H Q E
theorem BE{b a:Addr}{z:Int}{c:L2.St}{Q:VK}(g:c[1]?=some (some (.ref f)))(d:Eo K b H f a ns p)(e:ns[p]?=some z)(k:∀H',Eo K b H' f a ns (p+1)->DA f H H'->Q (.int z) H'):DF b "take_whole" (PX K b) [] E0 (Bi 1) B_ c H Q:=by obtain⟨⟨i,h⟩,Y⟩:=id d;exact⟨_,g,f,i,_,rfl,h,Tt a p,f,a,ns,p,z,rfl,d,e,k⟩
theorem ID{c a:Addr}{b:Bytes}{d:L2.St}{Q:VK}(h:d[1]?=some (some (.ref f)))(e:Eo K c H f a ns p)(g:ns[p]?=some (b.length:Int))(i:p+1+b.length<=ns.length)(l:(ns.drop (p+1)).take b.length=bInts b)(k:∀H' x,Eo K c H' f a ns (p+1+b.length)->DA f H H'->Tx x b->Q (.str x) H'):DF c "take_text" (U0 K c) [] E0 (Bi 1) B_ d H Q:=by obtain⟨⟨m,j⟩,Y⟩:=id e;exact⟨_,h,f,m,_,rfl,j,W_ a p,f,a,ns,p,b,rfl,e,g,i,l,k⟩
theorem eS{b a:Addr}{c:L2.St}{Q:VK}(g:c[1]?=some (some (.ref f)))(d:Eo K b H f a ns p)(e:ns[p]?=some (n:Int))(h:p+1+n<=ns.length)(k:∀H' l,Eo K b H' f a ns (p+1+n)->DA f H H'->H l=none->H' l=some (.lst (((ns.drop (p+1)).take n).map V.int))->Q (.ref l) H'):DF b "take_row" (Z1 K b) [] E0 (Bi 1) B_ c H Q:=by obtain⟨⟨j,i⟩,Y⟩:=id d;exact⟨_,g,f,j,_,rfl,i,cC a p,f,a,ns,p,n,rfl,d,e,h,k⟩
theorem AJ{a:L2.St}{D:Ends}{z n:Int}{t u:TS}(c:a[2]?=some (some (.int z)))(b:decide (V.int z=V.int n)=false)(k:u D a H):LR (Zq (Oq (Rw nG (Bi 2) (tC (.int n)))) t VU) u D a H:=⟨_,c,rfl,_,rfl,B8 b k⟩
theorem Fp{b:L2.St}{D:Ends}{z n:Int}{t u:TS}(c:b[2]?=some (some (.int z)))(d:decide (V.int z=V.int n)=true)(k:t {D with nx:=fun a H'=>u D a H'} b H):LR (Zq (Oq (Rw nG (Bi 2) (tC (.int n)))) t VU) u D b H:=⟨_,c,rfl,_,rfl,BI d k⟩
abbrev vr:List Str:=["desk","feed","call","most","line"]
theorem ZJ:Ah vr ["desk","feed"] (Ad OJ):={}
theorem Yz(j:AY):pk 11 "answer_or_refuse" ["desk","feed"] (PZ K aZ aF aD aH aE):=by
 refine j.HY.has fun F=>F.Ju ZJ fun H Q E J h G=>?_;obtain⟨d,f,la,ns,p,p',C,c,rfl,D,o,hD,L,k⟩:=h;have v:AV 1 _:=J.mono ⋯;have a0:AV 2 _:=J.mono ⋯;have I:AV 3 _:=J.mono ⋯;have W:AV 5 _:=J.mono ⋯;have V:AV 6 _:=J.mono ⋯;have U:AV 7 _:=J.mono ⋯;have Z:AV 8 _:=J.mono ⋯;exists%[An (i:=2) ZJ.nd (AS (Dk j) (pv 1) j.fc.cl v Ar),AK (Ao AX (pv 2) Ae) (Ag (Aj (AG (Q8 j) (pv 0) j.dc.cl Z G.passes (#v[AS (IZ j) (pv 1) j.fc.cl I Ar])))) Au,AK (Ao AX (pv 2) Ae) (%[An (i:=3) ZJ.nd (AS (Dk j) (pv 1) j.fc.cl v Ar) |Aj (AG (Td j) (pv 0) j.dc.cl J G.passes (#v[pv 3,AS (IZ j) (pv 1) j.fc.cl I Ar]))]) Au,AK (Ao AX (pv 2) Ae) (Ag (Aj (AG (Q5 j) (pv 0) j.dc.cl V G.passes (#v[AS (Dk j) (pv 1) j.fc.cl v Ar])))) Au,AK (Ao AX (pv 2) Ae) (Ag (Aj (AG (Nc j) (pv 0) j.dc.cl U G.passes (#v[AS (IZ j) (pv 1) j.fc.cl I Ar])))) Au,AK (Ao AX (pv 2) Ae) (Ag (Aj (AG (NQ j) (pv 0) j.dc.cl V G.passes (#v[AS (Dk j) (pv 1) j.fc.cl v Ar])))) Au,AK (Ao AX (pv 2) Ae) (Ag (Aj (AG (Q6 j) (pv 0) j.dc.cl U G.passes (#v[AS (Dk j) (pv 1) j.fc.cl v Ar])))) Au,AK (Ao AX (pv 2) Ae) (Ag (Aj (AS (Q4 j) (pv 0) j.dc.cl W G.passes))) Au,AK (Ao AX (pv 2) Ae) (Ag (Aj (AS (NR j) (pv 0) j.dc.cl W G.passes))) Au,AK (Ao AX (pv 2) Ae) (%[An (i:=3) ZJ.nd (AS (Dk j) (pv 1) j.fc.cl v Ar),An (i:=4) ZJ.nd (AS (IZ j) (pv 1) j.fc.cl I Ar) |Aj (AG (Yu j) (pv 0) j.dc.cl J G.passes (#v[pv 3,pv 4,AS (WU j) (pv 1) j.fc.cl a0 Ar]))]) Au|aB];obtain⟨⟨a6,hf⟩,a5,a3,a4⟩:=id D;have e:∀{u:Hp},DA f H u->A_ aD aH aE u d C:=fun B=>hD.feed hf B;have q:∀{u:Hp},DA f H u->∃n y z,u d=some (.ins aD n (V3 y z)):=fun B=>by obtain⟨n,y,z,h,Y,Y⟩:=e B;exact⟨n,y,z,h⟩
 cases c with|rules b=>obtain⟨s,w,R,P,rfl⟩:=L;refine BE rfl D s fun u l a=>Ax ?_;cbv;refine Fp rfl ⋯ ?_;obtain⟨n,y,z,r⟩:=q a;refine⟨_,rfl,d,n,_,rfl,r,De _ _ ∎ ∎,ID rfl l w R P fun T x m g N=>?_⟩;exact⟨d,x,b,C,rfl,N,e (a.trans g),Ft k m (e (a.trans g)) (a.trans g) o⟩ |find b A=>obtain⟨s,w,R,P,h4,rfl⟩:=L;refine BE rfl D s fun u l a=>Ax ?_;cbv;refine AJ rfl ⋯ (Fp rfl ⋯ (BE rfl l w fun T m g=>Ax ?_));cbv;obtain⟨n,y,z,r⟩:=q (a.trans g);refine⟨_,rfl,d,n,_,rfl,r,De _ _ ∎ ∎,_,rfl,ID rfl m R P h4 fun H3 x O S N=>?_⟩;have B:=(a.trans g).trans S;exact⟨d,x,b,A,C,rfl,N,e B,Ft k O (e B) B o⟩ |pos i=>obtain⟨s,w,rfl⟩:=L;refine BE rfl D s fun u l a=>Ax ?_;cbv;refine AJ rfl ⋯ (AJ rfl ⋯ (Fp rfl ⋯ ?_));obtain⟨n,y,z,r⟩:=q a;refine⟨_,rfl,d,n,_,rfl,r,De _ _ ∎ ∎,BE rfl l w fun T m g=>?_⟩;exact⟨d,i,C,rfl,e (a.trans g),Ft k m (e (a.trans g)) (a.trans g) o⟩ |no b=>obtain⟨s,w,R,P,rfl⟩:=L;refine BE rfl D s fun u l a=>Ax ?_;cbv;refine AJ rfl ⋯ (AJ rfl ⋯ (AJ rfl ⋯ (Fp rfl ⋯ ?_)));obtain⟨n,y,z,r⟩:=q a;refine⟨_,rfl,d,n,_,rfl,r,De _ _ ∎ ∎,ID rfl l w R P fun T x m g N=>?_⟩;exact⟨d,x,b,C,rfl,N,e (a.trans g),Ft k m (e (a.trans g)) (a.trans g) o⟩ |value i=>obtain⟨s,w,rfl⟩:=L;refine BE rfl D s fun u l a=>Ax ?_;cbv;refine AJ rfl ⋯ (AJ rfl ⋯ (AJ rfl ⋯ (AJ rfl ⋯ (Fp rfl ⋯ ?_))));obtain⟨n,y,z,r⟩:=q a;refine⟨_,rfl,d,n,_,rfl,r,De _ _ ∎ ∎,BE rfl l w fun T m g=>?_⟩;exact⟨d,i,C,rfl,e (a.trans g),Ft k m (e (a.trans g)) (a.trans g) o⟩ |best i=>obtain⟨s,w,rfl⟩:=L;refine BE rfl D s fun u l a=>Ax ?_;cbv;refine AJ rfl ⋯ (AJ rfl ⋯ (AJ rfl ⋯ (AJ rfl ⋯ (AJ rfl ⋯ (Fp rfl ⋯ ?_)))));obtain⟨n,y,z,r⟩:=q a;refine⟨_,rfl,d,n,_,rfl,r,De _ _ ∎ ∎,BE rfl l w fun T m g=>?_⟩;exact⟨d,i,C,rfl,e (a.trans g),Ft k m (e (a.trans g)) (a.trans g) o⟩ |sums=>obtain⟨s,rfl⟩:=L;refine BE rfl D s fun u l a=>Ax ?_;cbv;refine AJ rfl ⋯ (AJ rfl ⋯ (AJ rfl ⋯ (AJ rfl ⋯ (AJ rfl ⋯ (AJ rfl ⋯ (Fp rfl ⋯ ?_))))));obtain⟨n,y,z,r⟩:=q a;exact⟨_,rfl,d,n,_,rfl,r,De _ _ ∎ ∎,d,C,rfl,e a,Ft k l (e a) a o⟩ |table=>obtain⟨s,rfl⟩:=L;refine BE rfl D s fun u l a=>Ax ?_;cbv;refine AJ rfl ⋯ (AJ rfl ⋯ (AJ rfl ⋯ (AJ rfl ⋯ (AJ rfl ⋯ (AJ rfl ⋯ (AJ rfl ⋯ (Fp rfl ⋯ ?_)))))));obtain⟨n,y,z,r⟩:=q a;exact⟨_,rfl,d,n,_,rfl,r,De _ _ ∎ ∎,d,C,rfl,e a,Ft k l (e a) a o⟩ |judge b A t=>obtain⟨s,w,R,P,h4,h5,h6,h7,rfl⟩:=L;refine BE rfl D s fun u l a=>Ax ?_;cbv;refine AJ rfl ⋯ (AJ rfl ⋯ (AJ rfl ⋯ (AJ rfl ⋯ (AJ rfl ⋯ (AJ rfl ⋯ (AJ rfl ⋯ (AJ rfl ⋯ (Fp rfl ⋯ (BE rfl l w fun T m g=>Ax ?_)))))))));cbv;refine ID rfl m R P h4 fun H3 x O S N=>Ax ?_;cbv;have M:=(a.trans g).trans S;obtain⟨n,y,z,r⟩:=q M;refine⟨_,rfl,d,n,_,rfl,r,De _ _ ∎ ∎,_,rfl,_,rfl,eS rfl O h5 h6 fun H4 l4 a1 a2 n4 X=>?_⟩;have B:=M.trans a2;rw[h7]at X;exact⟨d,l4,x,b,A,t,C,rfl,N,X,e B,Ft k a1 (e B) B o⟩
theorem bj{I G:Addr}{d:Addr}{s:TaflEnds.State}(E:A_ I C G H d s)(c:Call):(TaflEnds.step s c).2.nums.length<=2000:=by
 obtain⟨O,J,N,Y,M,v⟩:=E;have a:∀z:Int,(says z).nums.length<=2000:=fun z=>by show 1<=2000;decide
 have g:∀(z:Int)(k p:Nat),(fault z k p).nums.length<=2000:=fun z k p=>by show 3<=2000;decide
 have l:∀(f:Rules->Held->Answer),(∀r h,B0 r->h.values.length<=200->(f r h).nums.length<=2000)->(ofHeld s f).2.nums.length<=2000:=fun f D=>by cases o:s.held with|none=>rw[DV o];exact a _|some h=>rw[o]at v;obtain⟨r,e,y,F,w,Y,u,A⟩:=v;rw[DU w o];exact D r h u.g.Z (by rw[A];show(r.values (y.map pB)).length<=200;rw[u.Xq];exact u.g.small)
 cases c with
 |rules b=>show(match judge b with| .error (k,p)=>(s,fault (-6) k p) | .ok r=>(⟨some r,none⟩,says 0)).2.nums.length<=2000;cases judge b with|error f=>exact g _ _ _|ok r=>exact a _
 |find b n=>
  rw[Pz];cases s.rules with
  |none=>exact a _
  |some r=>
   cbv;cases r.readLine b with
   |error f=>exact g _ _ _
   |ok p=>
    cbv;split;·exact a _
    ·cases graphOf r n p<;>exact a _
 |pos i=>refine l _ fun r h Z Y=>?_;cases h.graph[i]? with|none=>exact a _|some p=>show(0::((((r.line p).length:Int)::(r.line p).map fun(c:UInt8)=>((c.toNat:Nat):Int))++[])).length<=2000;rw[zR,zm,zm,z3];have:=SF Z p;lia
 |no b=>cases o:s.held with|none=>rw[WE o];exact a _|some h=>rw[o]at v;obtain⟨r,e,y,F,w,Y,u,A⟩:=v;rw[WD w o];cbv;cases r.readLine b with|error f=>exact g _ _ _|ok p=>cbv;cases h.graph.findIdx? fun(q:Tafl.Pos)=>q==p<;>exact a _
 |value i=>
  refine l _ fun r h Z Y=>?_;split;·exact a _
  ·cases h.values.getD i none with|none=>show 3<=2000;decide|some x=>show 3<=2000;decide
 |best i=>
  refine l _ fun r h Z Y=>?_;cases h.graph[i]? with
  |none=>exact a _
  |some p=>
   cbv;cases r.best h.graph h.values i with
   |none=>exact a _
   |some B=>
    obtain⟨m,j⟩:=B;show(0::([((j:Nat):Int)]++((((toldMove r p m).length:Int)::asInts (toldMove r p m))++[]))).length<=2000;have K:(r.takes p m).length<=192:=by unfold Rules.takes;exact z_ (xy _ _) (by rw[yj];exact ze _)
    rw[zR];unfold asInts toldMove;simp only[zm,zd,z3,yQ];lia
 |sums=>refine l _ fun r h Z Y=>?_;rw[Fi];unfold asInts;simp only[zm,z3];show 7+1+1<=2000;decide
 |table=>refine l _ fun r h Z L=>?_;rw[Fi];unfold asInts;simp only[zm,z3];lia
 |judge b n t=>
  rw[MY];cases s.rules with
  |none=>exact a _
  |some r=>
   cbv;cases r.readLine b with
   |error f=>exact g _ _ _
   |ok p=>
    cbv;split;·exact a _
    ·cases graphOf r n p<;>exact a _
def Kz(H H':Hp):Prop:=∀b o,H b=some o->(∀x u,o≠ .Hw x u)->H' b=some o
theorem Bf.kz{r:Rules}(h:Bf C H a r)(s:Kz H H'):Bf C H' a r:=by obtain⟨⟨k,d,l,j,i,g,f⟩,Z,N⟩:=h;exact⟨⟨k,d,l,s _ _ j (fun Y Y e=>by cases e),s _ _ i (fun Y Y e=>by cases e),g,fun c b e=>s _ _ (f c b e) fun Y Y e=>by cases e⟩,Z,N⟩
theorem Df.kz{c:Addr}{e:Addr}{r:Rules}{a:List Bd}{b:List (List Nat)}(h:Df c H e r a b)(s:Kz H H'):Df c H' e r a b:=by obtain⟨⟨A,l,o,v,d,q,⟨k,n,m⟩,p,⟨t,y,x,w⟩,⟨j,i,f⟩⟩,g,u⟩:=h;refine⟨⟨A,l,o,v,d,s _ _ q (fun Y Y e=>by cases e),⟨k,s _ _ n (fun Y Y e=>by cases e),Am (fun Y Y z=>s _ _ z fun Y Y e=>(by cases e)) m⟩,s _ _ p (fun Y Y e=>by cases e),⟨t,s _ _ y (fun Y Y e=>by cases e),Am (fun Y Y z=>s _ _ z fun Y Y e=>(by cases e)) x,w⟩,⟨j,s _ _ i (fun Y Y e=>by cases e),Am (fun Y Y z=>s _ _ z fun Y Y e=>(by cases e)) f⟩⟩,g,u⟩
theorem A_.kz{j i:Addr}{d:Addr}{s:TaflEnds.State}(h:A_ j C i H d s)(k:Kz H H'):A_ j C i H' d s:=by
 obtain⟨w,q,v,t,c,b⟩:=h;exists w,q,v,k _ _ t (fun Y Y e=>by cases e),?_;·cases f:s.rules with|none=>rw[f]at c;exact c|some r=>rw[f]at c;obtain⟨a,e,h⟩:=c;exact⟨a,e,h.kz k⟩
 ·cases g:s.held with|none=>rw[g]at b;exact b|some x=>rw[g]at b;obtain⟨r,e,p,u,o,n,m,l⟩:=b;exact⟨r,e,p,u,o,n,m.kz k,l⟩
theorem ZM{T:Addr}{o:HO}:Ap (Li H T) (Av H T o):=fun b x e=>by obtain⟨n,e⟩:=T5 e;rw[Ac n];exact e
theorem gm{T:Addr}{o:HO}:Li (Av H T o) T=Li H T:=by
 funext b;unfold Li;split;·rfl
 ·rename_i h;rw[Ac h]
def qK(K:Frag)(n j m C k d f h:Addr)(ns:List Int)(s:TaflEnds.State)(c:Call)(g:Nat)(H:Hp):XK:=fun v i a=>∃e b l,v= .ref e/\dH K n e/\i=some b/\a b=some (.xd [("told",.ref l)])/\Eo K j a f h ns g/\A_ m C k a d (TaflEnds.step s c).1/\gL f d H a/\H l=none/\a l=some (.lst ((TaflEnds.step s c).2.nums.map V.int))
inductive O8(K:Frag)(CF CD C CE:Addr):_|mk(d f la:Addr)(ns:List Int)(p p':Nat)(s:TaflEnds.State)(c:Call):vs=[.ref d,.ref f]->Eo K CF H f la ns p->d≠la->A_ CD C CE H d s->VP ns p c p'->(∀H' l,Eo K CF H' f la ns p'->A_ CD C CE H' d (TaflEnds.step s c).1->gL f d H H'->H l=none->H' l=some (.lst ((TaflEnds.step s c).2.nums.map V.int))->Q (.ref l) H')->O8 K CF CD C CE vs H Q E
theorem iO{c:Bool}{X:Cx}:C6 c X E0:=fun Y Y Y Y Y Y Y Y Y Y Y Y q=>q.elim
abbrev vE:List Str:=["desk","feed","e"]
theorem mf:Ah vE ["desk","feed"] (Ad K3):={}
theorem Ti(w:AY):FJ 12 "answer_call" ["desk","feed"] (O8 K aF aD aH aE):=by refine w.Oa.has fun F=>F.ok mf fun H Q E P h=>?_;obtain⟨d,f,B,ns,p,y,x,c,rfl,U,z,V,T,k⟩:=h;exists Ag (UO (c:=false) (c':=false) (E:=qK K aZ aF aD aH aE d f B ns x c y H) (E':=E0) (i:=2) (tb:=PR (Kr (PZ K aZ aF aD aH aE) [] (qK K aZ aF aD aH aE d f B ns x c y H) (Bc (Bi 0) (Bc (Bi 1) B_)))) (ts:=fun a=>PR (VT K (Bi 2) "told")) ⟨rfl,rfl⟩ mf.nd rfl rfl rfl w.qS w.qR (fun pn xe J=>by exact(Ag (Aj (Ay (Yz w) P rfl J.passes (#v[pv 0,pv 1]))))) iO (fun a xe J=>by exact(Ag (Aj (Qm (pv 2) rfl)))));refine⟨⟨_,rfl,_,rfl,d,f,B,ns,p,y,x,c,rfl,U,z,V,T,⟨fun H' l t s r q j=>k H' l t s r q j,fun M u H' v l t s r q j D=>⟨M,v,l,rfl,u,rfl,t,s,r,q,j,D⟩⟩⟩,?_⟩;rintro I N X L ⟨M,v,l,W,u,rfl,t,s,r,q,j,D⟩ A;cases W;have g:Ap L (Av L I (YO false I N (some v))):=Af A;obtain⟨⟨G,S⟩,C,O,R⟩:=s;exact⟨u.sub,_,rfl,false,I,N,v,[("told",.ref l)],_,rfl,Aa,u.at_,g _ _ t,xW,k _ l ⟨⟨G,g _ _ S⟩,g.seq C,O,R⟩ (r.same g) (fun b o e n m=>g _ _ (q b o e n m)) j (g _ _ D)⟩
inductive RA(C:Addr):_|mk(H0:Hp)(f la:Addr):vs=[.ref f,.ref la]->(∃dx,H f=some (.ins C dx []))->Ap H0 H->H0 f=none->(∀H' dx,H' f=some (.ins C dx (QG la 0))->Ap H0 H'->Q .Bz H')->RA C vs H Q E
theorem Te(a:AY):nO 1 aF ["self","numbers"] (RA aF):=by refine a.jU.has fun F=>F.ok oB fun H Q E j h=>?_;obtain⟨l,f,g,rfl,⟨d,i⟩,b,c,k⟩:=h;exists%[B1 (pv 0) (pv 1) |B1 (pv 0) Ae];exists _,rfl,_,rfl,f,aF,d,_,rfl,i,a.fc.cl,a.fc.nH,(by show 0<1000;decide);exists _,rfl,f,aF,d,_,rfl,Aa,a.fc.cl,a.fc.nA,(by show 1<1000;decide);rw[DH];have e:Bx "at" (V.int 0) (Bx "handed" (V.ref g) [])=QG g 0:=#v[];rw[e];exact k _ d Aa (Bu b c)
theorem gS{c:Addr}{f:Addr}{e:List (Str×V)}(d:KH K H)(h:AI K H c xs)(b:H a=some (.ins C f e)):a≠c:=fun z=>by
 rw[z]at b;rcases h with(h|⟨o,h⟩) |⟨o,Y,Y,h,Y⟩;·rw[h]at b;cases b
 ·rw[h]at b;cases b
 ·rw[d c o h]at b;cases b
theorem iY{b:Addr}{o:HO}(d:KH K H')(h:AI K H b xs)(n:H a=none)(c:H' a=some o):a≠b:=fun z=>by
 rw[z]at c n;rcases h with(h|⟨o,h⟩) |⟨o,Y,Y,h,Y⟩;·rw[h]at n;cases n
 ·rw[h]at n;cases n
 ·rw[d b o h]at c;cases c
abbrev vw:List Str:=["calls","feed","desk","told","answer"]
theorem ZK:Ah vw ["calls"] (Ad EL):={}
theorem Th(L:AY){f0:Addr}{b5:FuncData}(F:En K "answers" "answers" EL f0 b5):Vv 13 f0 b5 ["calls"] (EI K):=by
 refine F.ok ZK fun H Q E hr h=>?_;obtain⟨B,ns,rfl,c3,R,u,k⟩:=h;have c2:AV 1 _:=hr.mono ⋯;have a0:AV 2 _:=hr.mono ⋯;exists%[An (i:=1) ZK.nd (IJ (Te L) a0 rfl L.ke Ar (#v[pv 0])),An (i:=2) ZK.nd (aK (Yx L) a0 rfl L.kf Ar),An (i:=3) ZK.nd (AE Cd),Qj (CU y0 (BS (AS (cg L) (pv 1) L.fc.cl c2 Ar)) (%[An (i:=4) ZK.nd (ff (Ay (Ti L) hr rfl Ar (#v[pv 2,pv 1]))),A2 (B4 zK zW zY By (pv 3) (#v[AN AU L.D6 y8 (#v[pv 4])])) |A2 (B4 zK xN wA GO (pv 3) (#v[pv 4]))])) |Aj (pv 3)];refine⟨_,rfl,fun f df nf b9 d3=>?_⟩;have s0:Ap H (Av (Av H df (.own f)) f (.ins aF df [])):=fun b' o z=>by rw[Ac (Ab z nf),Ac (Ab z b9)];exact z
 refine⟨H,f,B,rfl,⟨df,Aa⟩,s0,nf,fun W d1 a6 s1=>⟨rfl,?_⟩⟩;refine Ax ?_;cbv;refine fun d dd nd c0 d2=>?_;have s2:Ap W (Av (Av W dd (.own d)) d (.ins aD dd [])):=fun b' o z=>by rw[Ac (Ab z nd),Ac (Ab z c0)];exact z
 refine⟨W,d,rfl,⟨dd,Aa⟩,s2,nd,fun H2 b3 s3=>⟨rfl,?_⟩⟩;refine Ax ?_;cbv;refine⟨zx _,fun T hT=>?_⟩;refine Ax ?_;cbv;have sT:=Af (o:= .lst []) hT;intro kh;obtain⟨d8,d4,d7,a7,Y,Y⟩:=id b3;have I:AI K H2 B (ns.map V.int):=s3.seq (s1.seq c3);have a4:=sT _ _ (s3 _ _ a6);have c4:=sT _ _ a7;have D:=sT.seq I;have C:f≠B:=gS kh D a4;have Z:d≠B:=gS kh D c4;have G:T≠B:=iY kh I hT Aa;unfold PyWqacdc.answers_asked at u;unfold PyWqacdc.answers at k;cases x:PyWqacdc.calls ns with
 |none=>rw[x]at u;cases u
 |some cs=>
  rw[x]at u k;dsimp only at u k;rw[zp]at u;obtain⟨b4,w⟩:=u;have U:cs.length<=300:=vt b4;unfold PyWqacdc.calls at x;cases P:PyFlat.calls PyWqacdc.shape ns.length ns with
  |none=>rw[P]at x;cases x
  |some A=>
   rw[P]at x;obtain rfl:A.map PyWqacdc.whole=cs:=zt x;rw[z3]at U;have a9:(A.map PyWqacdc.whole).all TaflEndsNeutral.asked1=true:=by unfold TaflEndsNeutral.asked at w;rw[zp]at w;exact w.2
   have O:T≠f:=(Ab (s3 _ _ a6) hT).symm;have c1:T≠d:=(Ab a7 hT).symm;exists fun m σ H'=>∃(v4:Option V)(s:TaflEnds.State)(p g:Nat)(j:List (List (List Int)))(a:List Int),σ=[some (.ref B),some (.ref f),some (.ref d),some (.ref T),v4]/\Eo K aF H' f B ns p/\A_ aD aH aE (Li H' T) d s/\H' T=some (.lst (a.map V.int))/\PyFlat.calls PyWqacdc.shape g (ns.drop p)=some j/\j.length=m/\(j.map PyWqacdc.whole).all TaflEndsNeutral.asked1=true/\PyFlat.told (PyFlat.played TaflEndsNeutral.step TaflEndsNeutral.start (A.map PyWqacdc.whole))=a++PyFlat.told (PyFlat.played TaflEndsNeutral.step s (j.map PyWqacdc.whole))/\a.length+2001*m<=2001*300,⟨A.length,none,TaflEndsNeutral.start,0,ns.length,A,[],rfl,⟨⟨d1,a4⟩,D,C,R⟩,b3.same (fun b o e=>by rw[BX (Ab e hT)];exact sT _ _ e),Aa,by rw[xK];exact P,rfl,a9,rfl,by simp only[yQ];lia⟩;rintro m σ H' ⟨v4,s,p,g,j,a,rfl,hF,hD,b1,y,hm,ha,e,hl⟩;obtain⟨⟨b7,hf⟩,a2,Y,Y⟩:=id hF;exists _,rfl,f,b7,_,rfl,hf,gf B p,f,B,ns,p,rfl,hF,_,rfl;by_cases hp:p<ns.length
   ·refine BI (zj hp) ⟨fun X H4=>∃m',m'<m/\∃(v4:Option V)(s:TaflEnds.State)(p g:Nat)(j:List (List (List Int)))(a:List Int),X=[some (.ref B),some (.ref f),some (.ref d),some (.ref T),v4]/\Eo K aF H4 f B ns p/\A_ aD aH aE (Li H4 T) d s/\H4 T=some (.lst (a.map V.int))/\PyFlat.calls PyWqacdc.shape g (ns.drop p)=some j/\j.length=m'/\(j.map PyWqacdc.whole).all TaflEndsNeutral.asked1=true/\PyFlat.told (PyFlat.played TaflEndsNeutral.step TaflEndsNeutral.start (A.map PyWqacdc.whole))=a++PyFlat.told (PyFlat.played TaflEndsNeutral.step s (j.map PyWqacdc.whole))/\a.length+2001*m'<=2001*300,fun X H4 z=>z,?_⟩;obtain⟨z,r,e0⟩:∃z r,ns.drop p=z::r:=⟨_,_,yf hp⟩;have S:∃c t v g',PyFlat.call PyWqacdc.shape (ns.drop p)=some (c,t)/\PyFlat.calls PyWqacdc.shape g' t=some v/\j=c::v:=by rw[e0]at y|-;cases g with|zero=>cases y|succ g=>replace y:(match PyFlat.call PyWqacdc.shape (z::r)with|none=>none|some (c,t)=>match PyFlat.calls PyWqacdc.shape g t with|none=>none|some cs=>some (c::cs))=some j:=y;cases h1:PyFlat.call PyWqacdc.shape (z::r)with|none=>rw[h1]at y;cases y|some ct=>rw[h1]at y;obtain⟨c,t⟩:=ct;dsimp only at y;cases h2:PyFlat.calls PyWqacdc.shape g t with|none=>rw[h2]at y;cases y|some v=>rw[h2]at y;exact⟨c,t,v,g,rfl,h2,(zt y).symm⟩
    obtain⟨c,t,v,g',c6,a8,rfl⟩:=S;rw[zH,wY,zp]at ha;obtain⟨M,p',c5,c9,rfl,d5,d6⟩:=gz c6 ha.1;refine⟨T,.lst (a.map V.int),b1,we,fun od=>?_⟩;have sD:Ap (Li H' T) (Av H' T (.Hw od (.lst (a.map V.int)))):=ZM;have b8:DA T H' (Av H' T (.Hw od (.lst (a.map V.int)))):=fun b o e n=>by rw[Ac n];exact e
    refine⟨_,rfl,_,rfl,d,f,B,ns,p,p',s,M,rfl,⟨⟨b7,b8 _ _ hf (zN O)⟩,AI.but b8 (zN G) a2,C,R⟩,Z,hD.same sD,c9,fun W l c7 c8 b2 nl a3=>?_⟩;have b0:W T=some (.Hw od (.lst (a.map V.int))):=b2 _ _ Aa O c1;have N:l≠T:=fun q=>by rw[q,Aa]at nl;cases nl
    have nn:=bj hD M;refine⟨b0,Ax ?_⟩;cbv;exists _,rfl,.inl ⟨rfl,_,AI.of Aa⟩,_,rfl,l,_,rfl,.inl (AI.of (by rw[Ac N];exact a3)),T,_,_,rfl,rfl,Aa,?_;·rw[z3];have:(700000:Nat)<=sizeLine:=⋯;lia
    exists _,rfl,.inl ⟨rfl,_,AI.of Aa⟩,_,rfl,T,l,_,_,rfl,rfl,Aa,(by rw[Ac N,Ac N];exact a3),?_;·rw[zd,z3,z3];show a.length+1+_<=sizeLine;have:(700000:Nat)<=sizeLine:=⋯;rw[zm]at hm;lia
    ·rw[DH,DH];obtain⟨⟨b6,a5⟩,a1,Y,Y⟩:=c7;have J:∀{o:HO},DA T W (Av W T o):=fun b o e n=>by rw[Ac n];exact e
     have d0:TaflEndsNeutral.step s (PyWqacdc.whole c)=((TaflEnds.step s M).1,(TaflEnds.step s M).2.nums):=by unfold TaflEndsNeutral.step;rw[c5]
     rw[zm]at hm;exists v.length,∅,_,(TaflEnds.step s M).1,p',g',v,a++(((TaflEnds.step s M).2.nums.length:Int)::(TaflEnds.step s M).2.nums),rfl,⟨⟨b6,J _ _ a5 (zN O)⟩,AI.but J (zN G) a1,C,R⟩,?_,?_,a8,rfl,ha.2,?_
     ·rw[gm];refine c8.kz fun b o eb nz=>?_;rw[BX];·exact eb
      ·intro q;rw[q,b0]at eb;cases eb;exact nz _ _ rfl
     ·rw[Aa,z3,zu,zX];rfl
     ·rw[e];show a++PyFlat.told ((TaflEndsNeutral.step s (PyWqacdc.whole c)).2::PyFlat.played _ (TaflEndsNeutral.step s (PyWqacdc.whole c)).1 _)=_;rw[d0,zX];rfl
     ·rw[zd,zm];lia
   ·refine B8 (zo hp) ⟨_,rfl,?_⟩;have e0:ns.drop p=[]:=yN ∅;rw[e0]at y;have:j=[]:=by cases g<;>exact(zt y).symm
    subst this;refine k H' T ?_;rw[b1,e];show some (HO.lst (a.map V.int))=some (HO.lst ((a++[]).map V.int));rw[zR]
inductive Oe(K:Frag)(f:Addr)(x qual:Str)(st:Stmt):Prop|mk(oc:Value)(od:Option Addr)(kV doc pm:Value)(an:Option Addr)(cdv ct:Value)(sl:Array (Option Value)):K.lookup f=some ⟨oc,od,.func (fnOf x qual (GZ st) (DN st) (Ad st) .none kV doc pm an cdv ct),sl⟩->codeIn K cdv qual=true->keepIn K (.ref f)=true->Oe K f x qual st
def Ui:Nat->(List Value->Prop)->Prop|0,p=>p [] |n+1,p=>∀v,Ui n fun l=>p (v::l)
theorem Ui.of:∀{n:Nat}{p:List Value->Prop},Ui n p->∀a:List Value,a.length=n->p a|0,_,h,[],_=>h|_+1,_,h,v::l,e=>Ui.of (h v) l (Nat.succ.inj e)
def G5(x a:Str)(b:Stmt)(f:List Str):Prop:=∀(h c g:Value)(i:Option Addr)(d ct:Value),Ui f.length fun e=>bindArgs (fnOf x a (GZ b) (DN b) (Ad b) .none h c g i d ct) ⟨e,[]⟩=pure (f.zip e)
theorem Oe.ok{K:Frag}{g:Str}{i:Stmt}{j:List Str}(h:Oe K f x g i)(b:G5 x g i j):∃fd,En K x g i f fd/\Bm K fd j []:=by obtain⟨s,r,t,m,q,u,n,ct,p,l,c,k⟩:=h;have F:=cy (st:=i) l c k;exact⟨_,F,F.binds fun a o c d e f=>(b a o c d e f).of⟩
section
variable{K:Frag}{h:Heap}{mg:Str->Option Value}{f C:Addr}{x qual:Str}{st:Stmt}{ps:List Str}
theorem kr(X:K.In h)(G:h.Ns mainGlobals mg)(a:nsIn K mainGlobals x=some (some (.ref f)):=by k_is)(F:Oe K f x x st:=by exact⟨_,_,_,_,_,_,_,_,_,by k_is,by k_is,by k_is⟩)(b:G5 x x st ps:=by(repeat intro);rfl):Def K mg x st ps:=by obtain⟨fd,F,b⟩:=F.ok b;exact⟨f,fd,F,b,tW X G a⟩
theorem jI(a:findIn K (.ref C) x=some (some (.ref f)):=by k_is)(i:isFn K (.ref f)=true:=by k_is)(F:Oe K f x qual st:=by exact⟨_,_,_,_,_,_,_,_,_,by k_is,by k_is,by k_is⟩)(b:G5 x qual st ps:=by(repeat intro);rfl):Met K C x qual st ps:=by obtain⟨fd,F,b⟩:=F.ok b;exact⟨f,fd,F,b,a,i,F.kp⟩
theorem jS(a:findIn K (.ref C) "__init__"=some (some (.ref f)):=by k_is)(i:isFn K (.ref f)=true:=by k_is)(m:makesIn K C=true:=by k_is)(c:keepIn K (.ref C)=true:=by k_is)(F:Oe K f "__init__" qual st:=by exact⟨_,_,_,_,_,_,_,_,_,by k_is,by k_is,by k_is⟩)(b:G5 "__init__" qual st ps:=by(repeat intro);rfl):gH K C qual st ps:=by obtain⟨fd,F,b⟩:=F.ok b;exact⟨f,fd,F,b,m,a,i,c⟩
theorem gq(X:K.In h)(G:h.Ns mainGlobals mg)(a:nsIn K mainGlobals x=some (some (.ref C)):=by k_is)(i:findIn K (.ref C) "__init__"=some (some (.ref f)):=by k_is)(fn:isFn K (.ref f)=true:=by k_is)(mk:D7 K C=true:=by kernel_rfl)(d:keepIn K (.ref C)=true:=by k_is)(c:subIn K (.ref C) (.type "type")=some false:=by k_is)(F:Oe K f "__init__" qual st:=by exact⟨_,_,_,_,_,_,_,_,_,by k_is,by k_is,by k_is⟩)(b:G5 "__init__" qual st ps:=by(repeat intro);rfl)(t:VQ K C "told":=by exact⟨by kernel_rfl,by k_is,by k_is,by k_is,by k_is⟩):Rc K mg C x qual st ps:=by obtain⟨fd,F,b⟩:=F.ok b;exact⟨f,fd,F,b,⟨mk,i,fn,d,c⟩,t,tW X G a⟩
theorem eQ(X:K.In h)(G:h.Ns mainGlobals mg)(g:nsIn K mainGlobals "Exception"=some none:=by k_is)(a:nsIn K mainGlobals "Refusal"=some (some (.ref C)):=by k_is)(i:findIn K (.ref C) "__init__"=some (some (.ref f)):=by k_is)(F:Oe K f "__init__" "Refusal.__init__" FT:=by exact⟨_,_,_,_,_,_,_,_,_,by k_is,by k_is,by k_is⟩)(b:G5 "__init__" "Refusal.__init__" FT ["self","told"]:=by(repeat intro);rfl)(e:readsIn K C (.type "type")=true:=by k_is)(d:specialIn K (.ref C) "__getattribute__"=some (some (.builtin "type.__getattribute__")):=by k_is)(c:(match findCls K (.ref C) (.type "type") "__init__"with|some (.val v)=>v== .ref f|_=>false)=true:=by kernel_rfl):kP K mg:=by obtain⟨fd,F,b⟩:=F.ok b;exact⟨f,fd,C,F,b,PySem.W.mg_none_of X G g,tW X G a,e,d,F.kp,c⟩
theorem kK(i:findIn K (.ref C) "__init__"=some (some (.ref f)):=by k_is)(fn:isFn K (.ref f)=true:=by k_is)(mk:D7 K C=true:=by kernel_rfl)(d:keepIn K (.ref C)=true:=by k_is)(c:subIn K (.ref C) (.type "type")=some false:=by k_is)(F:Oe K f "__init__" "Astray.__init__" Fo:=by exact⟨_,_,_,_,_,_,_,_,_,by k_is,by k_is,by k_is⟩)(b:G5 "__init__" "Astray.__init__" Fo ["self","place"]:=by(repeat intro);rfl):∃a fdA,En K "__init__" "Astray.__init__" Fo a fdA/\Bm K fdA ["self","place"] []/\PK K C a:=by obtain⟨fd,F,b⟩:=F.ok b;exact⟨f,fd,F,b,mk,i,fn,d,c⟩
theorem na{y:Str}(e:findIn K (.ref C) y=some none:=by k_is):Bl K C y:=e
theorem CN{o:Obj}{b:Array Value}(l:K.lookup a=some o:=by k_is)(c:o.cls= .type "tuple":=by rfl)(d:o.data= .seq b n:=by rfl)(z:b.size<=sizeLine:=by decide+kernel)(v:AF xs b.toList:=by repeat(first|exact .nil|refine .cons (by first|exact rfl|exact⟨_,rfl⟩) ?_)):BQ K a xs:=⟨o,b,n,l,c,d,z,v⟩
theorem VC{C B A z x w v s r q p o l j h g f e d:Addr}(m:mg "CHOICES"=some (.ref C))(k:BQ K C [.ref B,.ref A,.ref z,.ref x,.ref w,.ref v,.ref s,.ref r,.ref q]:=by exact He.CN)(V:BQ K B [.str "first",.str "first ",.ref p]:=by exact He.CN)(M:BQ K p [.str "hunters",.str "king"]:=by exact He.CN)(U:BQ K A [.str "slides",.str "\nking ",.ref o]:=by exact He.CN)(L:BQ K o [.str "steps",.str "slides"]:=by exact He.CN)(T:BQ K z [.str "armed",.str " ",.ref l]:=by exact He.CN)(J:BQ K l [.str "bare",.str "armed"]:=by exact He.CN)(S:BQ K x [.str "four",.str " ",.ref j]:=by exact He.CN)(I:BQ K j [.str "two",.str "four"]:=by exact He.CN)(R:BQ K w [.str "passed",.str "\nseat ",.ref h]:=by exact He.CN)(H:BQ K h [.str "barred",.str "passed"]:=by exact He.CN)(Q:BQ K v [.str "seat",.str " ",.ref g]:=by exact He.CN)(G:BQ K g [.str "quiet",.str "hunters",.str "men",.str "all"]:=by exact He.CN)(P:BQ K s [.str "exits",.str "\nexits ",.ref f]:=by exact He.CN)(F:BQ K f [.str "quiet",.str "hunters",.str "men",.str "all"]:=by exact He.CN)(O:BQ K r [.str "goal",.str "\ngoal ",.ref e]:=by exact He.CN)(E:BQ K e [.str "edge",.str "exits"]:=by exact He.CN)(N:BQ K q [.str "thrice",.str "\nthrice ",.ref d]:=by exact He.CN)(D:BQ K d [.str "drawn",.str "hunters",.str "king"]:=by exact He.CN):Rg K mg:=by refine⟨C,[B,A,z,x,w,v,s,r,q],[p,o,l,j,h,g,f,e,d],m,k,rfl,rfl,fun i t u y a c b=>?_⟩;match i,a,c,b with|0,a,c,b=>cases a;cases c;cases b;exact⟨V,M⟩ |1,a,c,b=>cases a;cases c;cases b;exact⟨U,L⟩ |2,a,c,b=>cases a;cases c;cases b;exact⟨T,J⟩ |3,a,c,b=>cases a;cases c;cases b;exact⟨S,I⟩ |4,a,c,b=>cases a;cases c;cases b;exact⟨R,H⟩ |5,a,c,b=>cases a;cases c;cases b;exact⟨Q,G⟩ |6,a,c,b=>cases a;cases c;cases b;exact⟨P,F⟩ |7,a,c,b=>cases a;cases c;cases b;exact⟨O,E⟩ |8,a,c,b=>cases a;cases c;cases b;exact⟨N,D⟩ |n+9,a,_,_=>cases a
end
theorem kM:Sx Y:=fun a b b F=>Th a F
theorem kj{P:Program}{w:World}{K:Frag}{mg:Str->Option Value}{g:Addr}(d:mg "answers"=some (.ref g))(m:mg "answers"=some (.ref f))(D:Oe K f "answers" "answers" EL:=by exact⟨_,_,_,_,_,_,_,_,_,by k_is,by k_is,by k_is⟩)(b:G5 "answers" "answers" EL ["calls"]:=by(repeat intro);rfl){v u x y z A j p r q t o n:Addr}(Z:pS K mg v u x y z CA A j p r q t o n):∃fd:FuncData,(∀(s:Shared)(a:List Value),a.length=(["calls"]:List Str).length->BindsTo s fd ⟨a,[]⟩ ((["calls"]:List Str).zip a))/\∀base:Heap,K.In base->base.Ns mainGlobals mg->D9 P w K mg base PM 13 g fd ["calls"] (EI K):=by
 obtain⟨J,I,C,h,B,G,i,ct,H,l,c,k⟩:=D;have F:=cy (st:=EL) l c k;have e:g=f:=by rw[d]at m;injection m with m;injection m
 subst e;exact⟨_,fun s a E=> .of_eq ((b C h B G i ct).of a E),fun base Y Y=>lu kM ⟨P,w,K,mg,base,v,u,x,y,z,CA,A,j,p,r,q,t,o,n⟩ Z F⟩
end He
end
open PySem PySem.W PyProof.Rows
noncomputable def He.ad:List Addr:=(Hd.heap_1 He.pm).map (·.1)
set_option maxRecDepth 1000000 in theorem He.di(P:Params):He.ad=(Hd.heap_1 P).map (·.1):=by kernel_rfl
set_option maxRecDepth 100000 in
set_option maxHeartbeats 0 in
theorem PySem.Challenge.cw_hallends_s01_answers_holds : PySem.Challenge.rw_hallends_s01_answers.Holds := by
 
 w_on;refine holds_os (q:=Hd.view_1) (loose:=He.lo) (Xt:=He.Xt) (XP:=XL Hd.view_1 []) (Yf:=(kHook Hd.heap_1 He.ad He.di).obs) (Ya:=(kHook Hd.heap_1 He.ad He.di).val) (YP:=(kHook Hd.heap_1 He.ad He.di).says) (N:=12274) (He.left _ _) (Hook.of _) (Hook.keeps _) (fun s e=>xl_of s (Bool.and_eq_true_iff.mp e).1) XL.keeps (by rfl) (by rfl) (by rfl) (fun s e=>recFacts_of (Bool.and_eq_true_iff.mp e).2) os_shapes (by decide+kernel) (by decide+kernel) ⟨rfl,rfl,rfl,rfl,rfl,by decide+kernel⟩ ⟨[.list [.int 6]],by decide+kernel,by decide+kernel⟩ ?_;k_fillS;refine L2.Uo (r:=PySem.Challenge.rw_hallends_s01_answers) (k:=13) (CX:=L2.PM) (ps:=["calls"]) (sp:=He.EI) (by decide+kernel) rfl rfl ⟨rfl,by decide,by decide⟩ (fun w h Y=>kIn_of Y) ?F ?S (fun _ _ _ _ z=>z);case F=>intro w mg fa h Y KX G hmg;exact He.kj hmg (mg_of KX G (by k_is)) (Z:=by constructor<;>first|exact mg_of KX G (by k_is) |exact mg_none_of KX G (by k_is) |exact He.kr KX G|exact He.jI|exact He.jS|exact He.gq KX G|exact⟨_,mg_of KX G (by k_is)⟩ |exact⟨⟨by kernel_rfl,by k_is,by k_is,by k_is,by k_is⟩,by k_is⟩ |exact He.eQ KX G|exact He.kK|exact He.VC (mg_of KX G (by k_is)) |exact⟨by kernel_rfl,by k_is,by k_is,by k_is,by k_is⟩ |exact⟨⟨by k_is,by k_is,by k_is,by k_is⟩,He.na,He.na⟩ |exact⟨⟨by k_is,by k_is,by k_is,by k_is⟩,He.na,He.na,He.na,He.na⟩ |exact⟨⟨by k_is,by k_is,by k_is,by k_is⟩,He.na,He.na,He.na,He.na,He.na,He.na,He.na,He.na,He.na,He.na,He.na⟩ |exact⟨_,_,mg_of KX G (by k_is),by decide+kernel⟩ |exact⟨_,mg_of KX G (by k_is),He.CN⟩ |exact⟨_,_,mg_of KX G (by k_is),mg_of KX G (by k_is),He.CN,He.CN⟩ |exact⟨_,_,_,mg_of KX G (by k_is),He.CN,He.CN,He.CN⟩ |exact⟨_,_,_,_,_,mg_of KX G (by k_is),He.CN,He.CN,He.CN,He.CN,He.CN⟩ |k_is|kernel_rfl)
 case S=>intro K H xs a hO hwi hask hx;cases hx with|cons h1 h2=>cases h2;cases h1 with|lst hs ha=>have e:=L2.WQ a.1 _ ha;subst e;have q:((Codec.inLen 0 30000 a.1&&a.1.all (Codec.inInt 0 2147483647))&&true)=true:=hwi;rw[Bool.and_eq_true,Bool.and_eq_true]at q;exact⟨_,a.1,rfl,hs,(Codec.inNat_iff.mp q.1.1).2,hask,fun H' p hp=> .lst (L2.AI.of hp) (L2.Xd _)⟩
