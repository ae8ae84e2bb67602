import Derived.LaidEql
import Derived.Stop.Asserts
import Derived.RowKitTokens
import Derived.Test.YthfpipieboophaaGreatDoorZak
namespace Go.Proofs.YthfpipieboophaaGreatDoor
set_option maxRecDepth 100000
set_option maxHeartbeats 40000000
open Go.RowKit
section
open Go.Proofs.Tryz Go.Extern.Stop Go.Stop Go.Extern
theorem Tryz.valueOf100 (t:Addr) (w:World):(ReflectliteValue.unpack (.iface 192 (.pointer (some t)))).run prog w
  = .ok (.agg #[.pointer (some ⟨12,192,none⟩),.pointer (some ⟨w.heap.size,0,none⟩),.int .u64 150]) (w.alloc (.cells #[.pointer (some t)] 192)):=by kernel_rfl
theorem Tryz.type100 (a:Addr) (w:World):(ReflectliteValue.methodAny (ReflectliteValue.valueError "reflectlite.Value.Type" 0) (fun t _ _ _=>ReflectliteType.toType t) #[.agg #[.pointer (some ⟨12,192,none⟩),.pointer (some a),.int .u64 150]]).run prog w
  = .ok (.iface 278 (.agg #[.pointer (some ⟨12,192,none⟩)])) w:=by kernel_rfl
theorem Tryz.methodKind (h:Value) (w:World):(Go.method 520 278 (.agg #[h]) "Kind").run prog w= .ok (338,h) w:=by kernel_rfl
theorem Tryz.kind100 (w:World):((ReflectliteType.abiMethod fun t=>(fun a:Nat=>Value.int IntKind.u8 (a:Int)) <$>Rtype.kind t) #[.pointer (some ⟨12,192,none⟩)]).run prog w= .ok (.int .u8 22) w:=by kernel_rfl
theorem Tryz.kind40 (w:World):((ReflectliteType.abiMethod fun t=>(fun a:Nat=>Value.int IntKind.u8 (a:Int)) <$>Rtype.kind t) #[.pointer (some ⟨12,24,none⟩)]).run prog w= .ok (.int .u8 2) w:=by kernel_rfl
theorem zz (z:Sem Value) (f:TypeId->Addr->Nat->Nat->Sem Value) (v:Value):
  ReflectliteValue.method z f #[v]=(do match <-ReflectliteValue.parts v with | none=>z | some (t,a,fl)=>f t a fl (fl % 32)):=rfl
theorem Tryz.parts100 (a:Addr) (w:World):(ReflectliteValue.parts (.agg #[.pointer (some ⟨12,192,none⟩),.pointer (some a),.int .u64 150])).run prog w= .ok (some (192,a,150)) w:=by kernel_rfl
theorem Tryz.isNil100 (a p:Addr) (W:World) (ha:W.cell? a=some (.pointer (some p))):
  (ReflectliteValue.method (ReflectliteValue.valueError "reflectlite.Value.IsNil" 0) ReflectliteValue.isNil #[.agg #[.pointer (some ⟨12,192,none⟩),.pointer (some a),.int .u64 150]]).run prog W= .ok (.bool false) W:=by
 rw[zz];simp only[Sem.run_bind,Tryz.parts100,Result.andThen];simp[ReflectliteValue.isNil,loadVar,isAgg,underlying,underlying192,ha,Result.andThen]
theorem Tryz.methodElem (h:Value) (w:World):(Go.method 520 278 (.agg #[h]) "Elem").run prog w= .ok (352,.agg #[h]) w:=by kernel_rfl
theorem Tryz.methodImplements (h:Value) (w:World):(Go.method 520 278 (.agg #[h]) "Implements").run prog w= .ok (353,.agg #[h]) w:=by kernel_rfl
theorem Tryz.methodAssignableTo (h:Value) (w:World):(Go.method 520 278 (.agg #[h]) "AssignableTo").run prog w= .ok (350,.agg #[h]) w:=by kernel_rfl
theorem Tryz.elem100 (w:World):(ReflectliteType.method ReflectliteType.elem #[.agg #[.pointer (some ⟨12,192,none⟩)]]).run prog w= .ok (.iface 278 (.agg #[.pointer (some ⟨12,24,none⟩)])) w:=by kernel_rfl
theorem Tryz.implements40 (w:World):(ReflectliteType.relation "Implements" ReflectliteType.implements_ #[.agg #[.pointer (some ⟨12,24,none⟩)],.iface 278 (.agg #[.pointer (some ⟨12,29,none⟩)])]).run prog w= .ok (.bool true) w:=by kernel_rfl
theorem Tryz.typeOf40 (v:Value) (w:World):(ReflectliteType.typeOf #[.iface 24 v]).run prog w= .ok (.iface 278 (.agg #[.pointer (some ⟨12,24,none⟩)])) w:=by kernel_rfl
theorem Tryz.assignable40 (w:World):(ReflectliteType.relation "AssignableTo" ReflectliteType.assignableTo #[.agg #[.pointer (some ⟨12,24,none⟩)],.iface 278 (.agg #[.pointer (some ⟨12,24,none⟩)])]).run prog w= .ok (.bool true) w:=by kernel_rfl
theorem Tryz.valueOf40 (k:Int) (w:World):(ReflectliteValue.unpack (.iface 24 (.int .i64 k))).run prog w
  = .ok (.agg #[.pointer (some ⟨12,24,none⟩),.pointer (some ⟨w.heap.size,0,none⟩),.int .u64 130]) (w.alloc (.cells #[.int .i64 k] 24)):=by kernel_rfl
theorem Tryz.elemOf100 (w:World):(Rtype.elem? 192).run prog w= .ok (some 24) w:=by kernel_rfl
theorem Tryz.mk40 (p:Addr) (w:World):(ReflectliteValue.mk 24 p ReflectliteValue.flagAddr).run prog w= .ok (.agg #[.pointer (some ⟨12,24,none⟩),.pointer (some p),.int .u64 386]) w:=by kernel_rfl
theorem Tryz.elemV100 (a p:Addr) (W:World) (ha:W.cell? a=some (.pointer (some p))):
  (ReflectliteValue.method (ReflectliteValue.valueError "reflectlite.Value.Elem" 0) ReflectliteValue.elem #[.agg #[.pointer (some ⟨12,192,none⟩),.pointer (some a),.int .u64 150]]).run prog W
   = .ok (.agg #[.pointer (some ⟨12,24,none⟩),.pointer (some p),.int .u64 386]) W:=by
 rw[zz];simp only[Sem.run_bind,Tryz.parts100,Result.andThen];simp[ReflectliteValue.elem,loadVar,isAgg,underlying,underlying192,ha,Result.andThen,Tryz.elemOf100,Tryz.mk40]
theorem rls (v x:Value):ReflectliteValue.set #[v,x]=(do
  let(some (dst,a,fl),some (src,b,_)):=(<-ReflectliteValue.parts v,<-ReflectliteValue.parts x)
   | unsupported (.noEntry "extern/(internal/reflectlite.Value).Set.zeroValue")
  if fl/ReflectliteValue.flagAddr % 2==0 then unsupported (.noEntry "extern/(internal/reflectlite.Value).Set.unaddressable")
  let val<-loadVar src b
  if <-Rtype.directlyAssignable dst src then storeVar dst a val
  else if <-Rtype.implements dst src then
   if(<-Rtype.kind src)==20 then
    match val with
    | .nilIface=>unsupported (.noEntry "extern/reflectlite: a nil value of one interface type handed on as a value of another")
    | _=>storeVar dst a val
   else storeVar dst a (.iface src val)
  else panicString ("reflectlite.Set: value of type " ++(<-Rtype.spelt src)++ " is not assignable to type " ++(<-Rtype.spelt dst))
  pure (.tuple #[])):=rfl
theorem Tryz.parts40a (a:Addr) (w:World):(ReflectliteValue.parts (.agg #[.pointer (some ⟨12,24,none⟩),.pointer (some a),.int .u64 386])).run prog w= .ok (some (24,a,386)) w:=by kernel_rfl
theorem Tryz.parts40 (a:Addr) (w:World):(ReflectliteValue.parts (.agg #[.pointer (some ⟨12,24,none⟩),.pointer (some a),.int .u64 130])).run prog w= .ok (some (24,a,130)) w:=by kernel_rfl
theorem Tryz.direct40 (w:World):(Rtype.directlyAssignable 24 24).run prog w= .ok true w:=by kernel_rfl
theorem Tryz.set40 (ta b:Addr) (k:Int) (old:Value) (W:World) (hb:W.cell? b=some (.int .i64 k)) (ht:W.cell? ta=some old) (hf:W.frozen? ta=false):
  (ReflectliteValue.set #[.agg #[.pointer (some ⟨12,24,none⟩),.pointer (some ta),.int .u64 386],.agg #[.pointer (some ⟨12,24,none⟩),.pointer (some b),.int .u64 130]]).run prog W
   = .ok (.tuple #[]) (W.setCell ta (.int .i64 k)):=by
 rw[rls];simp only[Sem.run_bind,Tryz.parts40a,Tryz.parts40,Result.andThen];simp[ReflectliteValue.flagAddr,loadVar,isAgg,underlying,underlying24,hb,Result.andThen,Tryz.direct40,storeVar,Value.cells,storeCells,Addr.add];rw[run_store prog W ta _ _ (by rfl)];simp[ht,hf]
theorem Uy (k:Int) (t:Addr) (old:Value) (w:World) (hg:w.cell? ⟨2,0,none⟩=some (.iface 278 (.agg #[.pointer (some ⟨12,29,none⟩)]))) (ht0:w.cell? t=some old) (hf0:w.frozen? t=false):
  Calls prog 106 #[.iface 24 (.int .i64 k),.iface 192 (.pointer (some t))] w fun ev w'=>ev= .returned (.bool true)∧w'=((((w.alloc (.cells #[.pointer (some t)] 192)).alloc (.cells #[.pointer (some ⟨12,192,none⟩),.pointer (some ⟨w.heap.size,0,none⟩),.int .u64 150] 209)).alloc (.cells #[.pointer (some ⟨12,192,none⟩),.pointer (some ⟨w.heap.size,0,none⟩),.int .u64 150] 209)).alloc (.cells #[.int .i64 k] 24)).setCell t (.int .i64 k):=by
 have h6:= @run_callFunc_extern prog 123 _ (fun args=>ReflectliteValue.unpack (args.getD 0 (.tuple #[]))) func123 (by kernel_rfl) (by kernel_rfl) (by kernel_rfl) (by kernel_rfl);have h7:= @run_callFunc_extern prog 176 _ (ReflectliteValue.methodAny (ReflectliteValue.valueError "reflectlite.Value.Type" 0) (fun t _ _ _=>ReflectliteType.toType t)) func176 (by kernel_rfl) (by kernel_rfl) (by kernel_rfl) (by kernel_rfl);have h8:= @run_callFunc_extern prog 177 _ (ReflectliteValue.method (ReflectliteValue.valueError "reflectlite.Value.IsNil" 0) ReflectliteValue.isNil) func177 (by kernel_rfl) (by kernel_rfl) (by kernel_rfl) (by kernel_rfl);have h27:= @run_callFunc_extern prog 338 _ (ReflectliteType.abiMethod fun t=>do pure (.int .u8 (<-Rtype.kind t))) func338 (by kernel_rfl) (by kernel_rfl) (by kernel_rfl) (by kernel_rfl);have h37:= @run_callFunc_extern prog 352 _ (ReflectliteType.method ReflectliteType.elem) func352 (by kernel_rfl) (by kernel_rfl) (by kernel_rfl) (by kernel_rfl);have h38:= @run_callFunc_extern prog 353 _ (ReflectliteType.relation "Implements" ReflectliteType.implements_) func353 (by kernel_rfl) (by kernel_rfl) (by kernel_rfl) (by kernel_rfl);have h10:= @run_callFunc_extern prog 247 _ ReflectliteType.typeOf func247 (by kernel_rfl) (by kernel_rfl) (by kernel_rfl) (by kernel_rfl);have h35:= @run_callFunc_extern prog 350 _ (ReflectliteType.relation "AssignableTo" ReflectliteType.assignableTo) func350 (by kernel_rfl) (by kernel_rfl) (by kernel_rfl) (by kernel_rfl);have h11:= @run_callFunc_extern prog 248 _ (ReflectliteValue.method (ReflectliteValue.valueError "reflectlite.Value.Elem" 0) ReflectliteValue.elem) func248 (by kernel_rfl) (by kernel_rfl) (by kernel_rfl) (by kernel_rfl);have h12:= @run_callFunc_extern prog 249 _ ReflectliteValue.set func249 (by kernel_rfl) (by kernel_rfl) (by kernel_rfl) (by kernel_rfl);have tO:=Tryz.typeOf40;have mA:=Tryz.methodAssignableTo;have a25:=Tryz.assignable40;have v25:=Tryz.valueOf40;have f6:=Tryz.valueOf100;have f7:=Tryz.type100;have mK:=Tryz.methodKind;have mE:=Tryz.methodElem;have mI:=Tryz.methodImplements;have k27:=Tryz.kind100;have k25:=Tryz.kind40;have e27:=Tryz.elem100;have i25:=Tryz.implements40;have n8:=Tryz.isNil100 ⟨w.heap.size,0,none⟩ t ((w.alloc (.cells #[.pointer (some t)] 192)).alloc (.cells #[.pointer (some ⟨12,192,none⟩),.pointer (some ⟨w.heap.size,0,none⟩),.int .u64 150] 209)) (by simp);have hlt:2 < w.heap.size:=World.block_lt_of_cell? _ _ hg
 have hg2:((w.alloc (.cells #[.pointer (some t)] 192)).alloc (.cells #[.pointer (some ⟨12,192,none⟩),.pointer (some ⟨w.heap.size,0,none⟩),.int .u64 150] 209)).cell? ⟨2,0,none⟩=some (.iface 278 (.agg #[.pointer (some ⟨12,29,none⟩)])):=by
  rw[World.cell?_alloc_lt _ _ ⟨2,0,none⟩ (by simp;omega),World.cell?_alloc_lt _ _ ⟨2,0,none⟩ hlt];exact hg
 have htl:t.block < w.heap.size:=by
  rcases Nat.lt_or_ge t.block w.heap.size with h | h
  ·exact h
  ·simp[World.cell?,Array.getElem?_eq_none h] at ht0
 have el:=Tryz.elemV100 ⟨w.heap.size,0,none⟩ t (((w.alloc (.cells #[.pointer (some t)] 192)).alloc (.cells #[.pointer (some ⟨12,192,none⟩),.pointer (some ⟨w.heap.size,0,none⟩),.int .u64 150] 209)).alloc (.cells #[.pointer (some ⟨12,192,none⟩),.pointer (some ⟨w.heap.size,0,none⟩),.int .u64 150] 209)) (by rw[World.cell?_alloc_lt _ _ ⟨w.heap.size,0,none⟩ (by simp;omega)];simp)
 have st:=Tryz.set40 t ⟨w.heap.size+1+1+1,0,none⟩ k old ((((w.alloc (.cells #[.pointer (some t)] 192)).alloc (.cells #[.pointer (some ⟨12,192,none⟩),.pointer (some ⟨w.heap.size,0,none⟩),.int .u64 150] 209)).alloc (.cells #[.pointer (some ⟨12,192,none⟩),.pointer (some ⟨w.heap.size,0,none⟩),.int .u64 150] 209)).alloc (.cells #[.int .i64 k] 24))
  (by rw[World.cell?_alloc_at _ _ _ _ (by simp)];rfl)
  (by rw[World.cell?_alloc_lt _ _ t (by simp;omega),World.cell?_alloc_lt _ _ t (by simp;omega),World.cell?_alloc_lt _ _ t (by simp;omega),World.cell?_alloc_lt _ _ t htl];exact ht0)
  (by rw[World.frozen?_alloc_old _ _ t (by simp;omega),World.frozen?_alloc_old _ _ t (by simp;omega),World.frozen?_alloc_old _ _ t (by simp;omega),World.frozen?_alloc_old _ _ t (Nat.ne_of_lt htl)];exact hf0)
 go_enter func106,ntmps106;go_wp2;refine wp_loop_rounds 1 ?_;rw[rounds_succ];go_wp2;go_ret;exact⟨rfl,rfl⟩
end
section
open Go.Joins
theorem Rc (w:World) (o1 o2 o3 o4 o5:Obj) (v:Value):Below w.heap.size w ((((((w.alloc o1).alloc o2).alloc o3).alloc o4).alloc o5).setCell ⟨w.heap.size,0,none⟩ v):=
 (((((below_alloc1 w _).alloc (by simp) _).alloc (by simp;omega) _).alloc (by simp;omega) _).alloc (by simp;omega) _).setCell (Nat.le_refl _) _
theorem TV (w:World) (v0:Value) (t:TypeId) (o2 o3 o4 o5:Obj) (v:Value):((((((w.alloc (.cells #[v0] t)).alloc o2).alloc o3).alloc o4).alloc o5).setCell ⟨w.heap.size,0,none⟩ v).cell? ⟨w.heap.size,0,none⟩=some v:=by
 refine World.cell?_setCell_same _ _ _ (u:=v0) ?_;rw[World.cell?_alloc_lt _ _ _ (by simp;omega),World.cell?_alloc_lt _ _ _ (by simp;omega),World.cell?_alloc_lt _ _ _ (by simp;omega),World.cell?_alloc_lt _ _ _ (by simp)];simp
theorem AA (k:Int) (w:World) (hg:w.cell? ⟨2,0,none⟩=some (.iface 278 (.agg #[.pointer (some ⟨12,29,none⟩)]))) (_hz:0 < w.heap.size):
  Calls Tryz.prog 46 #[.iface 24 (.int .i64 k)] w fun e w'=>e= .returned (.int .i64 k)∧Below w.heap.size w w':=by
 have hg1:(w.alloc (.cells #[.int .i64 0] 24)).cell? ⟨2,0,none⟩=some (.iface 278 (.agg #[.pointer (some ⟨12,29,none⟩)])):=by
  rw[World.cell?_alloc_lt _ _ ⟨2,0,none⟩ (World.block_lt_of_cell? _ _ hg)];exact hg
 have hA:=Uy k ⟨w.heap.size,0,none⟩ (.int .i64 0) (w.alloc (.cells #[.int .i64 0] 24)) hg1 (by simp) (by simp);go_enter Tryz.func46,Tryz.ntmps46
 go_wp2_with (go_at_call 106;refine hA.mono ?_;rintro e w' ⟨rfl,hw'⟩;have hc:w'.cell? ⟨w.heap.size,0,none⟩=some (.int .i64 k):=(by subst hw';exact TV w _ _ _ _ _ _ _);have hB:Below w.heap.size w w':=(by subst hw';exact Rc w _ _ _ _ _ _);clear hw')
 go_ret;exact⟨rfl,hB⟩
end
section
open Go.Proofs.Tryz Go.Joins Go.Sort
theorem JO {w:World} {b:Nat} {k:Int} (hg:w.cell? ⟨2,0,none⟩=some iD) (h:w.cell? ⟨b,0,none⟩=some (.int .i64 k)):b≠2:=by
 intro e;subst e;rw[hg] at h;simp[iD] at h
theorem lX (c:Int) (w:World) (hg:w.cell? ⟨2,0,none⟩=some iD):Calls prog 46 #[.iface 24 (.int .i64 c)] w fun e w'=>e= .returned (.int .i64 c)∧Below w.heap.size w w':=
 AA c w hg (Nat.lt_of_le_of_lt (Nat.zero_le _) (World.block_lt_of_cell? _ _ hg))
theorem Ed (be bj bm:Nat) (v0 v1:Value) (f0 f1:Int) (om:Option Nat) (Sg:Nat->Prop) (x x':J) (L Lg:List O) (k t v:Int) (w:World) (hg0:w.cell? ⟨2,0,none⟩=some iD) (h:az w be bj bm v0 v1 f0 f1 om Sg x L Lg)
  (hx:x'.lo=x.lo∧x'.hi=x.hi∧x'.mode=x.mode)
  (hJ:∀W,ai W 0 bj bm v0 v1 x->Calls prog 45 #[.pointer (some ⟨bj,0,none⟩),.int .i64 0,.agg #[.int .i64 k,.int .i64 t,.int .i64 v]] W fun e w'=>e= .returned (.tuple #[.slice none 0 0,.iface 24 (.int .i64 10)])∧ai w' 0 bj bm v0 v1 x'∧Turned (fun j=>j=bj) W w'):
  Calls prog 11 #[.pointer (some ⟨be,0,none⟩),.int .i64 0,.agg #[.int .i64 k,.int .i64 t,.int .i64 v]] w fun e w'=>e= .returned (.tuple #[.slice none 0 0,.iface 24 (.int .i64 10)])∧az w' be bj bm v0 v1 (aZ f0) f1 om Sg x' L Lg∧Turned (aT bj bm v0 v1 om Sg) w w':=by
 have hbj:bj≠2:=JO hg0 h.join.cells.1
 have HJ:Hid (∀W,Below w.heap.size w W->W.heap[w.heap.size]? =some (bu k t v)->Calls prog 45 #[.pointer (some ⟨bj,0,none⟩),.int .i64 0,.agg #[.int .i64 k,.int .i64 t,.int .i64 v]] W fun e w'=>e= .returned (.tuple #[.slice none 0 0,.iface 24 (.int .i64 10)])∧(w'.cell? ⟨be,3,none⟩=some (.pointer (some ⟨bj,0,none⟩))∧w'.cell? ⟨w.heap.size,0,none⟩=some (.int .i64 k)∧w'.cell? ⟨w.heap.size,1,none⟩=some (.int .i64 t)∧w'.cell? ⟨w.heap.size,2,none⟩=some (.int .i64 v))∧Hid (w'.cell? ⟨2,0,none⟩=some iD∧az w' be bj bm v0 v1 f0 f1 om Sg x' L Lg∧Turned (aT bj bm v0 v1 om Sg) w w')):=by
  intro W hW hbx;have hE:=h.below hW;refine(hJ W hE.join).mono ?_;rintro e w' ⟨rfl,h1,h3⟩;have h3':Turned (eP bj bm v0 v1) W w':=h3.mono (fun k e=> .inl e);have hE2:=hE.joined h1 hx h3' (fun k e=> .inl e);have hz:2 < w.heap.size:=World.block_lt_of_cell? _ _ hg0;refine⟨rfl,⟨hE2.cells.2.2.2.1,bQ ((h3.block _ (Array.getElem?_eq_some_iff.1 hbx).1 (fun e=>by have :=h.join.lt;omega)).trans hbx)⟩,?_,hE2,(Turned.of_below (S:=aT bj bm v0 v1 om Sg) hW).trans h3' (fun _ _ e=> .inl e)⟩;exact(World.cell?_of_block (w:=w) (a:=⟨2,0,none⟩) ((h3.block 2 (Nat.lt_of_lt_of_le hz hW.size) (fun e=>hbj e.symm)).trans (hW.block 2 hz))).trans hg0
 have HZ:Hid (∀w2,az w2 be bj bm v0 v1 f0 f1 om Sg x' L Lg->Turned (aT bj bm v0 v1 om Sg) w w2->az (w2.setCell ⟨be,4,none⟩ (.int .i64 (aZ f0))).drew be bj bm v0 v1 (aZ f0) f1 om Sg x' L Lg∧Turned (aT bj bm v0 v1 om Sg) w (w2.setCell ⟨be,4,none⟩ (.int .i64 (aZ f0))).drew):=by
  intro w2 h2 ht;refine⟨(h2.setf 4 _ _ _ (.inl ⟨rfl,rfl,rfl⟩) (wS h.r0)).below ((Below.refl _ _).drew),(ht.trans (bC (b:=be) (o:=4) (u:= .int .i64 (aZ f0))) (fun k _ e=> .inr (.inr (by rw[e];exact h.inS)))).trans (Turned.of_below (S:=fun _=>False) ((Below.refl _ _).drew)) (fun _ _ e=>e.elim)⟩
 have HM:Hid (max f0 (wrap64 (f0+1))=aZ f0):=rJ h.r0;have hc0:=h.cells;have hlt:=h.blt;have hq:=ow 10;clear h hJ hx hg0;go_enter func11,ntmps11;go_wp2;have B1:Hid (Below w.heap.size w (w.alloc (bu k t v)).drew∧(w.alloc (bu k t v)).drew.heap[w.heap.size]? =some (bu k t v)):=⟨(below_alloc1 _ _).drew,heap_alloc_new w (bu k t v)⟩;have hc1:(w.alloc (bu k t v)).cell? ⟨be,3,none⟩=some (.pointer (some ⟨bj,0,none⟩))∧(w.alloc (bu k t v)).cell? ⟨w.heap.size,0,none⟩=some (.int .i64 k)∧(w.alloc (bu k t v)).cell? ⟨w.heap.size,1,none⟩=some (.int .i64 t)∧(w.alloc (bu k t v)).cell? ⟨w.heap.size,2,none⟩=some (.int .i64 v):=⟨((below_alloc1 w (bu k t v)).cell (p:=⟨be,3,none⟩) hlt).trans hc0.2.2.2.1,bQ (heap_alloc_new w (bu k t v))⟩;clear hc0
 go_region_held3 (fun W=>W.cell? ⟨be,3,none⟩=some (.pointer (some ⟨bj,0,none⟩))∧W.cell? ⟨w.heap.size,0,none⟩=some (.int .i64 k)∧W.cell? ⟨w.heap.size,1,none⟩=some (.int .i64 t)∧W.cell? ⟨w.heap.size,2,none⟩=some (.int .i64 v)) (first | exact hc1 | exact hc2 | fail) (first
  | (go_at_call 45;refine(HJ.out _ B1.out.1 B1.out.2).mono ?_;rintro e w1 ⟨rfl,hc2,h1⟩)
  | fail)
 clear hc1 hc2 B1 HJ
 go_wp2_with (first
  | (go_at_call 46;refine(lX _ _ h1.out.1).mono ?_;rintro e w2 ⟨rfl,hb2⟩;have E2:Hid (az w2 be bj bm v0 v1 f0 f1 om Sg x' L Lg∧Turned (aT bj bm v0 v1 om Sg) w w2):=⟨h1.out.2.1.below hb2,h1.out.2.2.trans (Turned.of_below (S:=fun _=>False) hb2) (fun _ _ e=>e.elim)⟩;clear hb2)
  | fail)
 have hc4:w2.cell? ⟨be,4,none⟩=some (.int .i64 f0)∧w2.frozen? ⟨be,4,none⟩=false∧be < w2.heap.size:=by
  have hc:=E2.out.1.cells;exact⟨hc.2.2.2.2.1,hc.2.2.2.2.2.2.1,E2.out.1.blt⟩
 go_region
 rw[HM.out];have Z:=HZ.out w2 E2.out.1 E2.out.2;have Z2:=hid Z;clear Z HZ E2 h1;revert Z2;generalize (w2.setCell ⟨be,4,none⟩ (.int .i64 (aZ f0))).drew=w3;intro Z2;go_wp2;exact bodyPost_ret (v:= .tuple #[.slice none 0 0,.iface 24 (.int .i64 10)]) (by simp[results,Tryz.results11,go_sem]) rfl ⟨rfl,Z2.out⟩
theorem Ee (be bj bm:Nat) (v0 v1:Value) (f0 f1:Int) (om:Option Nat) (Sg:Nat->Prop) (x x':J) (L Lg:List O) (k t v:Int) (w:World) (hg0:w.cell? ⟨2,0,none⟩=some iD) (h:az w be bj bm v0 v1 f0 f1 om Sg x L Lg)
  (hx:x'.lo=x.lo∧x'.hi=x.hi∧x'.mode=x.mode)
  (hJ:∀W,ai W 0 bj bm v0 v1 x->Calls prog 45 #[.pointer (some ⟨bj,0,none⟩),.int .i64 1,.agg #[.int .i64 k,.int .i64 t,.int .i64 v]] W fun e w'=>e= .returned (.tuple #[.slice none 0 0,.iface 24 (.int .i64 10)])∧ai w' 0 bj bm v0 v1 x'∧Turned (fun j=>j=bj) W w'):
  Calls prog 11 #[.pointer (some ⟨be,0,none⟩),.int .i64 1,.agg #[.int .i64 k,.int .i64 t,.int .i64 v]] w fun e w'=>e= .returned (.tuple #[.slice none 0 0,.iface 24 (.int .i64 10)])∧az w' be bj bm v0 v1 f0 (aZ f1) om Sg x' L Lg∧Turned (aT bj bm v0 v1 om Sg) w w':=by
 have hbj:bj≠2:=JO hg0 h.join.cells.1
 have HJ:Hid (∀W,Below w.heap.size w W->W.heap[w.heap.size]? =some (bu k t v)->Calls prog 45 #[.pointer (some ⟨bj,0,none⟩),.int .i64 1,.agg #[.int .i64 k,.int .i64 t,.int .i64 v]] W fun e w'=>e= .returned (.tuple #[.slice none 0 0,.iface 24 (.int .i64 10)])∧(w'.cell? ⟨be,3,none⟩=some (.pointer (some ⟨bj,0,none⟩))∧w'.cell? ⟨w.heap.size,0,none⟩=some (.int .i64 k)∧w'.cell? ⟨w.heap.size,1,none⟩=some (.int .i64 t)∧w'.cell? ⟨w.heap.size,2,none⟩=some (.int .i64 v))∧Hid (w'.cell? ⟨2,0,none⟩=some iD∧az w' be bj bm v0 v1 f0 f1 om Sg x' L Lg∧Turned (aT bj bm v0 v1 om Sg) w w')):=by
  intro W hW hbx;have hE:=h.below hW;refine(hJ W hE.join).mono ?_;rintro e w' ⟨rfl,h1,h3⟩;have h3':Turned (eP bj bm v0 v1) W w':=h3.mono (fun k e=> .inl e);have hE2:=hE.joined h1 hx h3' (fun k e=> .inl e);have hz:2 < w.heap.size:=World.block_lt_of_cell? _ _ hg0;refine⟨rfl,⟨hE2.cells.2.2.2.1,bQ ((h3.block _ (Array.getElem?_eq_some_iff.1 hbx).1 (fun e=>by have :=h.join.lt;omega)).trans hbx)⟩,?_,hE2,(Turned.of_below (S:=aT bj bm v0 v1 om Sg) hW).trans h3' (fun _ _ e=> .inl e)⟩;exact(World.cell?_of_block (w:=w) (a:=⟨2,0,none⟩) ((h3.block 2 (Nat.lt_of_lt_of_le hz hW.size) (fun e=>hbj e.symm)).trans (hW.block 2 hz))).trans hg0
 have HZ:Hid (∀w2,az w2 be bj bm v0 v1 f0 f1 om Sg x' L Lg->Turned (aT bj bm v0 v1 om Sg) w w2->az (w2.setCell ⟨be,5,none⟩ (.int .i64 (aZ f1))).drew be bj bm v0 v1 f0 (aZ f1) om Sg x' L Lg∧Turned (aT bj bm v0 v1 om Sg) w (w2.setCell ⟨be,5,none⟩ (.int .i64 (aZ f1))).drew):=by
  intro w2 h2 ht;refine⟨(h2.setf 5 _ _ _ (.inr ⟨rfl,rfl,rfl⟩) (wS h.r1)).below ((Below.refl _ _).drew),(ht.trans (bC (b:=be) (o:=5) (u:= .int .i64 (aZ f1))) (fun k _ e=> .inr (.inr (by rw[e];exact h.inS)))).trans (Turned.of_below (S:=fun _=>False) ((Below.refl _ _).drew)) (fun _ _ e=>e.elim)⟩
 have HM:Hid (max f1 (wrap64 (f1+1))=aZ f1):=rJ h.r1;have hc0:=h.cells;have hlt:=h.blt;have hq:=ow 10;clear h hJ hx hg0;go_enter func11,ntmps11;go_wp2;have B1:Hid (Below w.heap.size w (w.alloc (bu k t v)).drew∧(w.alloc (bu k t v)).drew.heap[w.heap.size]? =some (bu k t v)):=⟨(below_alloc1 _ _).drew,heap_alloc_new w (bu k t v)⟩;have hc1:(w.alloc (bu k t v)).cell? ⟨be,3,none⟩=some (.pointer (some ⟨bj,0,none⟩))∧(w.alloc (bu k t v)).cell? ⟨w.heap.size,0,none⟩=some (.int .i64 k)∧(w.alloc (bu k t v)).cell? ⟨w.heap.size,1,none⟩=some (.int .i64 t)∧(w.alloc (bu k t v)).cell? ⟨w.heap.size,2,none⟩=some (.int .i64 v):=⟨((below_alloc1 w (bu k t v)).cell (p:=⟨be,3,none⟩) hlt).trans hc0.2.2.2.1,bQ (heap_alloc_new w (bu k t v))⟩;clear hc0
 go_region_held3 (fun W=>W.cell? ⟨be,3,none⟩=some (.pointer (some ⟨bj,0,none⟩))∧W.cell? ⟨w.heap.size,0,none⟩=some (.int .i64 k)∧W.cell? ⟨w.heap.size,1,none⟩=some (.int .i64 t)∧W.cell? ⟨w.heap.size,2,none⟩=some (.int .i64 v)) (first | exact hc1 | exact hc2 | fail) (first
  | (go_at_call 45;refine(HJ.out _ B1.out.1 B1.out.2).mono ?_;rintro e w1 ⟨rfl,hc2,h1⟩)
  | fail)
 clear hc1 hc2 B1 HJ
 go_wp2_with (first
  | (go_at_call 46;refine(lX _ _ h1.out.1).mono ?_;rintro e w2 ⟨rfl,hb2⟩;have E2:Hid (az w2 be bj bm v0 v1 f0 f1 om Sg x' L Lg∧Turned (aT bj bm v0 v1 om Sg) w w2):=⟨h1.out.2.1.below hb2,h1.out.2.2.trans (Turned.of_below (S:=fun _=>False) hb2) (fun _ _ e=>e.elim)⟩;clear hb2)
  | fail)
 have hc4:w2.cell? ⟨be,5,none⟩=some (.int .i64 f1)∧w2.frozen? ⟨be,5,none⟩=false∧be < w2.heap.size:=by
  have hc:=E2.out.1.cells;exact⟨hc.2.2.2.2.2.1,hc.2.2.2.2.2.2.2,E2.out.1.blt⟩
 go_region
 rw[HM.out];have Z:=HZ.out w2 E2.out.1 E2.out.2;have Z2:=hid Z;clear Z HZ E2 h1;revert Z2;generalize (w2.setCell ⟨be,5,none⟩ (.int .i64 (aZ f1))).drew=w3;intro Z2;go_wp2;exact bodyPost_ret (v:= .tuple #[.slice none 0 0,.iface 24 (.int .i64 10)]) (by simp[results,Tryz.results11,go_sem]) rfl ⟨rfl,Z2.out⟩
theorem Eg (be bj bm:Nat) (v0 v1:Value) (f0 f1:Int) (om:Option Nat) (Sg:Nat->Prop) (x:J) (L Lg:List O) (k t v:Int) (w:World) (hg0:w.cell? ⟨2,0,none⟩=some iD) (h:az w be bj bm v0 v1 f0 f1 om Sg x L Lg)
  (hJ:∀W,ai W 0 bj bm v0 v1 x->Calls prog 45 #[.pointer (some ⟨bj,0,none⟩),.int .i64 0,.agg #[.int .i64 k,.int .i64 t,.int .i64 v]] W fun e w'=>e= .returned (.tuple #[.slice none 0 0,.iface 24 (.int .i64 12)])∧Below W.heap.size W w'):
  Calls prog 11 #[.pointer (some ⟨be,0,none⟩),.int .i64 0,.agg #[.int .i64 k,.int .i64 t,.int .i64 v]] w fun e w'=>e= .returned (.tuple #[.slice none 0 0,.iface 24 (.int .i64 12)])∧Below w.heap.size w w':=by
 have HJ:Hid (∀W,Below w.heap.size w W->W.heap[w.heap.size]? =some (bu k t v)->Calls prog 45 #[.pointer (some ⟨bj,0,none⟩),.int .i64 0,.agg #[.int .i64 k,.int .i64 t,.int .i64 v]] W fun e w'=>e= .returned (.tuple #[.slice none 0 0,.iface 24 (.int .i64 12)])∧(w'.cell? ⟨be,3,none⟩=some (.pointer (some ⟨bj,0,none⟩))∧w'.cell? ⟨w.heap.size,0,none⟩=some (.int .i64 k)∧w'.cell? ⟨w.heap.size,1,none⟩=some (.int .i64 t)∧w'.cell? ⟨w.heap.size,2,none⟩=some (.int .i64 v))∧Hid (w'.cell? ⟨2,0,none⟩=some iD∧Below w.heap.size w w')):=by
  intro W hW hbx;have hE:=h.below hW;refine(hJ W hE.join).mono ?_;rintro e w' ⟨rfl,h3⟩;have hB:Below w.heap.size w w':=hW.trans (h3.mono hW.size);have hE2:=h.below hB;have hz:2 < w.heap.size:=World.block_lt_of_cell? _ _ hg0;exact⟨rfl,⟨hE2.cells.2.2.2.1,bQ ((h3.block _ (Array.getElem?_eq_some_iff.1 hbx).1).trans hbx)⟩,(hB.cell (p:=⟨2,0,none⟩) hz).trans hg0,hB⟩
 have hc0:=h.cells;have hlt:=h.blt;have hq:=ow 12;clear h hJ hg0;go_enter func11,ntmps11;go_wp2;have B1:Hid (Below w.heap.size w (w.alloc (bu k t v)).drew∧(w.alloc (bu k t v)).drew.heap[w.heap.size]? =some (bu k t v)):=⟨(below_alloc1 _ _).drew,heap_alloc_new w (bu k t v)⟩;have hc1:(w.alloc (bu k t v)).cell? ⟨be,3,none⟩=some (.pointer (some ⟨bj,0,none⟩))∧(w.alloc (bu k t v)).cell? ⟨w.heap.size,0,none⟩=some (.int .i64 k)∧(w.alloc (bu k t v)).cell? ⟨w.heap.size,1,none⟩=some (.int .i64 t)∧(w.alloc (bu k t v)).cell? ⟨w.heap.size,2,none⟩=some (.int .i64 v):=⟨((below_alloc1 w (bu k t v)).cell (p:=⟨be,3,none⟩) hlt).trans hc0.2.2.2.1,bQ (heap_alloc_new w (bu k t v))⟩;clear hc0
 go_region_held3 (fun W=>W.cell? ⟨be,3,none⟩=some (.pointer (some ⟨bj,0,none⟩))∧W.cell? ⟨w.heap.size,0,none⟩=some (.int .i64 k)∧W.cell? ⟨w.heap.size,1,none⟩=some (.int .i64 t)∧W.cell? ⟨w.heap.size,2,none⟩=some (.int .i64 v)) (first | exact hc1 | exact hc2 | fail) (first
  | (go_at_call 45;refine(HJ.out _ B1.out.1 B1.out.2).mono ?_;rintro e w1 ⟨rfl,hc2,h1⟩)
  | fail)
 clear hc1 hc2 B1 HJ
 go_wp2_with (first
  | (go_at_call 46;refine(lX _ _ h1.out.1).mono ?_;rintro e w2 ⟨rfl,hb2⟩;have E2:Hid (Below w.heap.size w w2):=h1.out.2.trans (hb2.mono h1.out.2.size);clear hb2)
  | fail)
 exact bodyPost_ret (v:= .tuple #[.slice none 0 0,.iface 24 (.int .i64 12)]) (by simp[results,Tryz.results11,go_sem]) rfl ⟨rfl,E2.out⟩
theorem Eh (be bj bm:Nat) (v0 v1:Value) (f0 f1:Int) (om:Option Nat) (Sg:Nat->Prop) (x:J) (L Lg:List O) (k t v:Int) (w:World) (hg0:w.cell? ⟨2,0,none⟩=some iD) (h:az w be bj bm v0 v1 f0 f1 om Sg x L Lg)
  (hJ:∀W,ai W 0 bj bm v0 v1 x->Calls prog 45 #[.pointer (some ⟨bj,0,none⟩),.int .i64 1,.agg #[.int .i64 k,.int .i64 t,.int .i64 v]] W fun e w'=>e= .returned (.tuple #[.slice none 0 0,.iface 24 (.int .i64 12)])∧Below W.heap.size W w'):
  Calls prog 11 #[.pointer (some ⟨be,0,none⟩),.int .i64 1,.agg #[.int .i64 k,.int .i64 t,.int .i64 v]] w fun e w'=>e= .returned (.tuple #[.slice none 0 0,.iface 24 (.int .i64 12)])∧Below w.heap.size w w':=by
 have HJ:Hid (∀W,Below w.heap.size w W->W.heap[w.heap.size]? =some (bu k t v)->Calls prog 45 #[.pointer (some ⟨bj,0,none⟩),.int .i64 1,.agg #[.int .i64 k,.int .i64 t,.int .i64 v]] W fun e w'=>e= .returned (.tuple #[.slice none 0 0,.iface 24 (.int .i64 12)])∧(w'.cell? ⟨be,3,none⟩=some (.pointer (some ⟨bj,0,none⟩))∧w'.cell? ⟨w.heap.size,0,none⟩=some (.int .i64 k)∧w'.cell? ⟨w.heap.size,1,none⟩=some (.int .i64 t)∧w'.cell? ⟨w.heap.size,2,none⟩=some (.int .i64 v))∧Hid (w'.cell? ⟨2,0,none⟩=some iD∧Below w.heap.size w w')):=by
  intro W hW hbx;have hE:=h.below hW;refine(hJ W hE.join).mono ?_;rintro e w' ⟨rfl,h3⟩;have hB:Below w.heap.size w w':=hW.trans (h3.mono hW.size);have hE2:=h.below hB;have hz:2 < w.heap.size:=World.block_lt_of_cell? _ _ hg0;exact⟨rfl,⟨hE2.cells.2.2.2.1,bQ ((h3.block _ (Array.getElem?_eq_some_iff.1 hbx).1).trans hbx)⟩,(hB.cell (p:=⟨2,0,none⟩) hz).trans hg0,hB⟩
 have hc0:=h.cells;have hlt:=h.blt;have hq:=ow 12;clear h hJ hg0;go_enter func11,ntmps11;go_wp2;have B1:Hid (Below w.heap.size w (w.alloc (bu k t v)).drew∧(w.alloc (bu k t v)).drew.heap[w.heap.size]? =some (bu k t v)):=⟨(below_alloc1 _ _).drew,heap_alloc_new w (bu k t v)⟩;have hc1:(w.alloc (bu k t v)).cell? ⟨be,3,none⟩=some (.pointer (some ⟨bj,0,none⟩))∧(w.alloc (bu k t v)).cell? ⟨w.heap.size,0,none⟩=some (.int .i64 k)∧(w.alloc (bu k t v)).cell? ⟨w.heap.size,1,none⟩=some (.int .i64 t)∧(w.alloc (bu k t v)).cell? ⟨w.heap.size,2,none⟩=some (.int .i64 v):=⟨((below_alloc1 w (bu k t v)).cell (p:=⟨be,3,none⟩) hlt).trans hc0.2.2.2.1,bQ (heap_alloc_new w (bu k t v))⟩;clear hc0
 go_region_held3 (fun W=>W.cell? ⟨be,3,none⟩=some (.pointer (some ⟨bj,0,none⟩))∧W.cell? ⟨w.heap.size,0,none⟩=some (.int .i64 k)∧W.cell? ⟨w.heap.size,1,none⟩=some (.int .i64 t)∧W.cell? ⟨w.heap.size,2,none⟩=some (.int .i64 v)) (first | exact hc1 | exact hc2 | fail) (first
  | (go_at_call 45;refine(HJ.out _ B1.out.1 B1.out.2).mono ?_;rintro e w1 ⟨rfl,hc2,h1⟩)
  | fail)
 clear hc1 hc2 B1 HJ
 go_wp2_with (first
  | (go_at_call 46;refine(lX _ _ h1.out.1).mono ?_;rintro e w2 ⟨rfl,hb2⟩;have E2:Hid (Below w.heap.size w w2):=h1.out.2.trans (hb2.mono h1.out.2.size);clear hb2)
  | fail)
 exact bodyPost_ret (v:= .tuple #[.slice none 0 0,.iface 24 (.int .i64 12)]) (by simp[results,Tryz.results11,go_sem]) rfl ⟨rfl,E2.out⟩
theorem pG (be bj bm:Nat) (v0 v1:Value) (f0 f1:Int) (om:Option Nat) (Sg:Nat->Prop) (x x':J) (L Lg:List O) (s t:Int) (w:World) (h:az w be bj bm v0 v1 f0 f1 om Sg x L Lg)
  (hx:x'.lo=x.lo∧x'.hi=x.hi∧x'.mode=x.mode)
  (hJ:∀W,ai W 0 bj bm v0 v1 x->Calls prog 51 #[.pointer (some ⟨bj,0,none⟩),.int .i64 s,.int .i64 t] W fun e w'=>e= .returned .nilIface∧∃bA v1',ai w' 0 bj bm bA v1' x'∧Turned (eP bj bm v0 v1) W w'∧bA.ownBlock=v0.ownBlock∧v1'.ownBlock=v1.ownBlock):
  Calls prog 15 #[.pointer (some ⟨be,0,none⟩),.int .i64 s,.int .i64 t] w fun e w'=>e= .returned .nilIface∧∃bA v1',az w' be bj bm bA v1' f0 f1 om Sg x' L Lg∧Turned (aT bj bm v0 v1 om Sg) w w'∧bA.ownBlock=v0.ownBlock∧v1'.ownBlock=v1.ownBlock:=by
 have HJ:Hid (∀W,Below w.heap.size w W->Calls prog 51 #[.pointer (some ⟨bj,0,none⟩),.int .i64 s,.int .i64 t] W fun e w'=>e= .returned .nilIface∧w'.cell? ⟨be,3,none⟩=some (.pointer (some ⟨bj,0,none⟩))∧Hid (∃bA v1',az w' be bj bm bA v1' f0 f1 om Sg x' L Lg∧Turned (aT bj bm v0 v1 om Sg) w w'∧bA.ownBlock=v0.ownBlock∧v1'.ownBlock=v1.ownBlock)):=by
  intro W hW;have hE:=h.below hW;refine(hJ W hE.join).mono ?_;rintro e w' ⟨rfl,bA,v1',h1,h2,h3,h4⟩;have hE2:=hE.joined h1 hx h2 (jg (.inl h3) (.inl h4));exact⟨rfl,hE2.cells.2.2.2.1,bA,v1',hE2,(Turned.of_below (S:=aT bj bm v0 v1 om Sg) hW).trans h2 (fun _ _ e=> .inl e),h3,h4⟩
 have hc0:=h.cells.2.2.2.1;have hlt:=h.blt;clear h hJ hx;have B0:Hid (Below w.heap.size w w∧Below w.heap.size w w.drew):=⟨Below.refl _ _,(Below.refl _ _).drew⟩;go_enter func15,ntmps15
 go_wp2_with (first
  | (go_at_call 51;refine(HJ.out _ (by first | exact B0.out.1 | exact B0.out.2)).mono ?_;rintro e w1 ⟨rfl,hc1,h1⟩)
  | fail)
 go_ret;exact⟨rfl,h1.out⟩
end
end Go.Proofs.YthfpipieboophaaGreatDoor
