import Derived.Stop.Asserts
import Derived.Test.YthfpipieboophaaGreatDoorZEnd
namespace Go.Proofs.YthfpipieboophaaGreatDoor
set_option maxRecDepth 100000
set_option maxHeartbeats 40000000
open Go.RowKit
section
open Go.Proofs.Tryz Go.Extern.Stop Go.Stop Go.Extern
theorem Tryz.valueOf100(t:Addr)(w:World):(ReflectliteValue.unpack (.iface 192 (.pointer (some t)))).run prog w
  = .ok (.agg #[.pointer (some ⟨12,192,none⟩),.pointer (some ⟨w.heap.size,0,none⟩),.int .u64 150]) (w.alloc (.cells #[.pointer (some t)] 192)):=by kernel_rfl
theorem Tryz.type100(a:Addr)(w:World):(ReflectliteValue.methodAny (ReflectliteValue.valueError "reflectlite.Value.Type" 0) (λt _ _ _=>ReflectliteType.toType t) #[.agg #[.pointer (some ⟨12,192,none⟩),.pointer (some a),.int .u64 150]]).run prog w
  = .ok (.iface 278 (.agg #[.pointer (some ⟨12,192,none⟩)])) w:=by kernel_rfl
theorem Tryz.methodKind(h:Value)(w:World):(Go.method 520 278 (.agg #[h]) "Kind").run prog w=.ok (338,h) w:=by kernel_rfl
theorem Tryz.kind100(w:World):((ReflectliteType.abiMethod λt=>(λa:Nat=>Value.int IntKind.u8 (a:Int)) <$>Rtype.kind t) #[.pointer (some ⟨12,192,none⟩)]).run prog w=.ok (.int .u8 22) w:=by kernel_rfl
theorem Tryz.kind40(w:World):((ReflectliteType.abiMethod λt=>(λa:Nat=>Value.int IntKind.u8 (a:Int)) <$>Rtype.kind t) #[.pointer (some ⟨12,24,none⟩)]).run prog w=.ok (.int .u8 2) w:=by kernel_rfl
theorem zz(z:Sem Value)(f:TypeId->Addr->Nat->Nat->Sem Value)(v:Value):
  ReflectliteValue.method z f #[v]=(do match <-ReflectliteValue.parts v with|none=>z|some (t,a,fl)=>f t a fl (fl % 32)):=rfl
theorem Tryz.parts100(a:Addr)(w:World):(ReflectliteValue.parts (.agg #[.pointer (some ⟨12,192,none⟩),.pointer (some a),.int .u64 150])).run prog w=.ok (some (192,a,150)) w:=by kernel_rfl
theorem Tryz.isNil100(a p:Addr)(W:World)(ha:W.cell? a=some (.pointer (some p))):
  (ReflectliteValue.method (ReflectliteValue.valueError "reflectlite.Value.IsNil" 0) ReflectliteValue.isNil #[.agg #[.pointer (some ⟨12,192,none⟩),.pointer (some a),.int .u64 150]]).run prog W=.ok (.bool false) W:=by
 rw[zz];simp only[Sem.run_bind,Tryz.parts100,Result.andThen];simp[ReflectliteValue.isNil,loadVar,isAgg,underlying,underlying192,ha,Result.andThen]
theorem Tryz.methodElem(h:Value)(w:World):(Go.method 520 278 (.agg #[h]) "Elem").run prog w=.ok (352,.agg #[h]) w:=by kernel_rfl
theorem Tryz.methodImplements(h:Value)(w:World):(Go.method 520 278 (.agg #[h]) "Implements").run prog w=.ok (353,.agg #[h]) w:=by kernel_rfl
theorem Tryz.methodAssignableTo(h:Value)(w:World):(Go.method 520 278 (.agg #[h]) "AssignableTo").run prog w=.ok (350,.agg #[h]) w:=by kernel_rfl
theorem Tryz.elem100(w:World):(ReflectliteType.method ReflectliteType.elem #[.agg #[.pointer (some ⟨12,192,none⟩)]]).run prog w=.ok (.iface 278 (.agg #[.pointer (some ⟨12,24,none⟩)])) w:=by kernel_rfl
theorem Tryz.implements40(w:World):(ReflectliteType.relation "Implements" ReflectliteType.implements_ #[.agg #[.pointer (some ⟨12,24,none⟩)],.iface 278 (.agg #[.pointer (some ⟨12,29,none⟩)])]).run prog w=.ok (.bool true) w:=by kernel_rfl
theorem Tryz.typeOf40(v:Value)(w:World):(ReflectliteType.typeOf #[.iface 24 v]).run prog w=.ok (.iface 278 (.agg #[.pointer (some ⟨12,24,none⟩)])) w:=by kernel_rfl
theorem Tryz.assignable40(w:World):(ReflectliteType.relation "AssignableTo" ReflectliteType.assignableTo #[.agg #[.pointer (some ⟨12,24,none⟩)],.iface 278 (.agg #[.pointer (some ⟨12,24,none⟩)])]).run prog w=.ok (.bool true) w:=by kernel_rfl
theorem Tryz.valueOf40(k:Int)(w:World):(ReflectliteValue.unpack (.iface 24 (.int .i64 k))).run prog w
  = .ok (.agg #[.pointer (some ⟨12,24,none⟩),.pointer (some ⟨w.heap.size,0,none⟩),.int .u64 130]) (w.alloc (.cells #[.int .i64 k] 24)):=by kernel_rfl
theorem Tryz.elemOf100(w:World):(Rtype.elem? 192).run prog w=.ok (some 24) w:=by kernel_rfl
theorem Tryz.mk40(p:Addr)(w:World):(ReflectliteValue.mk 24 p ReflectliteValue.flagAddr).run prog w=.ok (.agg #[.pointer (some ⟨12,24,none⟩),.pointer (some p),.int .u64 386]) w:=by kernel_rfl
theorem Tryz.elemV100(a p:Addr)(W:World)(ha:W.cell? a=some (.pointer (some p))):
  (ReflectliteValue.method (ReflectliteValue.valueError "reflectlite.Value.Elem" 0) ReflectliteValue.elem #[.agg #[.pointer (some ⟨12,192,none⟩),.pointer (some a),.int .u64 150]]).run prog W
   = .ok (.agg #[.pointer (some ⟨12,24,none⟩),.pointer (some p),.int .u64 386]) W:=by
 rw[zz];simp only[Sem.run_bind,Tryz.parts100,Result.andThen];simp[ReflectliteValue.elem,loadVar,isAgg,underlying,underlying192,ha,Result.andThen,Tryz.elemOf100,Tryz.mk40]
theorem rls(v x:Value):ReflectliteValue.set #[v,x]=(do
  let(some (dst,a,fl),some (src,b,_)):=(<-ReflectliteValue.parts v,<-ReflectliteValue.parts x)
   |unsupported (.noEntry "extern/(internal/reflectlite.Value).Set.zeroValue")
  if fl/ReflectliteValue.flagAddr % 2==0 then unsupported (.noEntry "extern/(internal/reflectlite.Value).Set.unaddressable")
  let val<-loadVar src b
  if <-Rtype.directlyAssignable dst src then storeVar dst a val
  else if <-Rtype.implements dst src then
   if(<-Rtype.kind src)==20 then
    match val with
    |.nilIface=>unsupported (.noEntry "extern/reflectlite: a nil value of one interface type handed on as a value of another")
    |_=>storeVar dst a val
   else storeVar dst a (.iface src val)
  else panicString ("reflectlite.Set: value of type " ++(<-Rtype.spelt src)++ " is not assignable to type " ++(<-Rtype.spelt dst))
  pure (.tuple #[])):=rfl
theorem Tryz.parts40a(a:Addr)(w:World):(ReflectliteValue.parts (.agg #[.pointer (some ⟨12,24,none⟩),.pointer (some a),.int .u64 386])).run prog w=.ok (some (24,a,386)) w:=by kernel_rfl
theorem Tryz.parts40(a:Addr)(w:World):(ReflectliteValue.parts (.agg #[.pointer (some ⟨12,24,none⟩),.pointer (some a),.int .u64 130])).run prog w=.ok (some (24,a,130)) w:=by kernel_rfl
theorem Tryz.direct40(w:World):(Rtype.directlyAssignable 24 24).run prog w=.ok true w:=by kernel_rfl
theorem Tryz.set40(a b:Addr)(k:Int)(old:Value)(W:World)(d:W.cell? b=some (.int .i64 k))(c:W.cell? a=some old)(e:W.frozen? a=false):
  (ReflectliteValue.set #[.agg #[.pointer (some ⟨12,24,none⟩),.pointer (some a),.int .u64 386],.agg #[.pointer (some ⟨12,24,none⟩),.pointer (some b),.int .u64 130]]).run prog W
   = .ok (.tuple #[]) (W.setCell a (.int .i64 k)):=by
 rw[rls];simp only[Sem.run_bind,Tryz.parts40a,Tryz.parts40,Result.andThen];simp[ReflectliteValue.flagAddr,loadVar,isAgg,underlying,underlying24,d,Result.andThen,Tryz.direct40,storeVar,Value.cells,storeCells,Addr.add];rw[run_store prog W a _ _ (by rfl)];simp[c,e]
theorem Uy(k:Int)(t:Addr)(old:Value)(w:World)(hg:w.cell? ⟨2,0,none⟩=some (.iface 278 (.agg #[.pointer (some ⟨12,29,none⟩)])))(ht0:w.cell? t=some old)(hf0:w.frozen? t=false):
  Calls prog 106 #[.iface 24 (.int .i64 k),.iface 192 (.pointer (some t))] w λev w'=>ev=.returned (.bool true)/\w'=((((w.alloc (.cells #[.pointer (some t)] 192)).alloc (.cells #[.pointer (some ⟨12,192,none⟩),.pointer (some ⟨w.heap.size,0,none⟩),.int .u64 150] 209)).alloc (.cells #[.pointer (some ⟨12,192,none⟩),.pointer (some ⟨w.heap.size,0,none⟩),.int .u64 150] 209)).alloc (.cells #[.int .i64 k] 24)).setCell t (.int .i64 k):=by
 have h6:= @run_callFunc_extern prog 123 _ (λargs=>ReflectliteValue.unpack (args.getD 0 (.tuple #[]))) func123 (by kernel_rfl) (by kernel_rfl) (by kernel_rfl) (by kernel_rfl);have h7:= @run_callFunc_extern prog 176 _ (ReflectliteValue.methodAny (ReflectliteValue.valueError "reflectlite.Value.Type" 0) (λt _ _ _=>ReflectliteType.toType t)) func176 (by kernel_rfl) (by kernel_rfl) (by kernel_rfl) (by kernel_rfl);have h8:= @run_callFunc_extern prog 177 _ (ReflectliteValue.method (ReflectliteValue.valueError "reflectlite.Value.IsNil" 0) ReflectliteValue.isNil) func177 (by kernel_rfl) (by kernel_rfl) (by kernel_rfl) (by kernel_rfl);have h27:= @run_callFunc_extern prog 338 _ (ReflectliteType.abiMethod λt=>do pure (.int .u8 (<-Rtype.kind t))) func338 (by kernel_rfl) (by kernel_rfl) (by kernel_rfl) (by kernel_rfl);have h37:= @run_callFunc_extern prog 352 _ (ReflectliteType.method ReflectliteType.elem) func352 (by kernel_rfl) (by kernel_rfl) (by kernel_rfl) (by kernel_rfl);have h38:= @run_callFunc_extern prog 353 _ (ReflectliteType.relation "Implements" ReflectliteType.implements_) func353 (by kernel_rfl) (by kernel_rfl) (by kernel_rfl) (by kernel_rfl);have h10:= @run_callFunc_extern prog 247 _ ReflectliteType.typeOf func247 (by kernel_rfl) (by kernel_rfl) (by kernel_rfl) (by kernel_rfl);have h35:= @run_callFunc_extern prog 350 _ (ReflectliteType.relation "AssignableTo" ReflectliteType.assignableTo) func350 (by kernel_rfl) (by kernel_rfl) (by kernel_rfl) (by kernel_rfl);have h11:= @run_callFunc_extern prog 248 _ (ReflectliteValue.method (ReflectliteValue.valueError "reflectlite.Value.Elem" 0) ReflectliteValue.elem) func248 (by kernel_rfl) (by kernel_rfl) (by kernel_rfl) (by kernel_rfl);have h12:= @run_callFunc_extern prog 249 _ ReflectliteValue.set func249 (by kernel_rfl) (by kernel_rfl) (by kernel_rfl) (by kernel_rfl);have tO:=Tryz.typeOf40;have mA:=Tryz.methodAssignableTo;have a25:=Tryz.assignable40;have v25:=Tryz.valueOf40;have f6:=Tryz.valueOf100;have f7:=Tryz.type100;have mK:=Tryz.methodKind;have mE:=Tryz.methodElem;have mI:=Tryz.methodImplements;have k27:=Tryz.kind100;have k25:=Tryz.kind40;have e27:=Tryz.elem100;have i25:=Tryz.implements40;have n8:=Tryz.isNil100 ⟨w.heap.size,0,none⟩ t ((w.alloc (.cells #[.pointer (some t)] 192)).alloc (.cells #[.pointer (some ⟨12,192,none⟩),.pointer (some ⟨w.heap.size,0,none⟩),.int .u64 150] 209)) (by simp);have hlt:2<w.heap.size:=World.block_lt_of_cell? _ _ hg
 have hg2:((w.alloc (.cells #[.pointer (some t)] 192)).alloc (.cells #[.pointer (some ⟨12,192,none⟩),.pointer (some ⟨w.heap.size,0,none⟩),.int .u64 150] 209)).cell? ⟨2,0,none⟩=some (.iface 278 (.agg #[.pointer (some ⟨12,29,none⟩)])):=by
  rw[World.cell?_alloc_lt _ _ ⟨2,0,none⟩ (by simp;omega),World.cell?_alloc_lt _ _ ⟨2,0,none⟩ hlt];exact hg
 have htl:t.block<w.heap.size:=by
  rcases Nat.lt_or_ge t.block w.heap.size with h|h
  .exact h
  .simp[World.cell?,Array.getElem?_eq_none h]at ht0
 have el:=Tryz.elemV100 ⟨w.heap.size,0,none⟩ t (((w.alloc (.cells #[.pointer (some t)] 192)).alloc (.cells #[.pointer (some ⟨12,192,none⟩),.pointer (some ⟨w.heap.size,0,none⟩),.int .u64 150] 209)).alloc (.cells #[.pointer (some ⟨12,192,none⟩),.pointer (some ⟨w.heap.size,0,none⟩),.int .u64 150] 209)) (by rw[World.cell?_alloc_lt _ _ ⟨w.heap.size,0,none⟩ (by simp;omega)];simp)
 have st:=Tryz.set40 t ⟨w.heap.size+1+1+1,0,none⟩ k old ((((w.alloc (.cells #[.pointer (some t)] 192)).alloc (.cells #[.pointer (some ⟨12,192,none⟩),.pointer (some ⟨w.heap.size,0,none⟩),.int .u64 150] 209)).alloc (.cells #[.pointer (some ⟨12,192,none⟩),.pointer (some ⟨w.heap.size,0,none⟩),.int .u64 150] 209)).alloc (.cells #[.int .i64 k] 24))
  (by rw[World.cell?_alloc_at _ _ _ _ (by simp)];rfl)
  (by rw[World.cell?_alloc_lt _ _ t (by simp;omega),World.cell?_alloc_lt _ _ t (by simp;omega),World.cell?_alloc_lt _ _ t (by simp;omega),World.cell?_alloc_lt _ _ t htl];exact ht0)
  (by rw[World.frozen?_alloc_old _ _ t (by simp;omega),World.frozen?_alloc_old _ _ t (by simp;omega),World.frozen?_alloc_old _ _ t (by simp;omega),World.frozen?_alloc_old _ _ t (Nat.ne_of_lt htl)];exact hf0)
 go_enter func106,ntmps106;go_wp2;refine wp_loop_rounds 1 ?_;rw[rounds_succ];go_wp2;go_ret;exact⟨rfl,rfl⟩
end
section
open Go.Joins
theorem Rc(w:World)(o1 o2 b c a:Obj)(v:Value):Below w.heap.size w ((((((w.alloc o1).alloc o2).alloc b).alloc c).alloc a).setCell ⟨w.heap.size,0,none⟩ v):=
 (((((below_alloc1 w _).alloc (by simp) _).alloc (by simp;omega) _).alloc (by simp;omega) _).alloc (by simp;omega) _).setCell (Nat.le_refl _) _
theorem TV(w:World)(a:Value)(t:TypeId)(o2 c d b:Obj)(v:Value):((((((w.alloc (.cells #[a] t)).alloc o2).alloc c).alloc d).alloc b).setCell ⟨w.heap.size,0,none⟩ v).cell? ⟨w.heap.size,0,none⟩=some v:=by
 refine World.cell?_setCell_same _ _ _ (u:=a) ?_;rw[World.cell?_alloc_lt _ _ _ (by simp;omega),World.cell?_alloc_lt _ _ _ (by simp;omega),World.cell?_alloc_lt _ _ _ (by simp;omega),World.cell?_alloc_lt _ _ _ (by simp)];simp
theorem AA(k:Int)(w:World)(d:w.cell? ⟨2,0,none⟩=some (.iface 278 (.agg #[.pointer (some ⟨12,29,none⟩)])))(_hz:0<w.heap.size):
  Calls Tryz.prog 46 #[.iface 24 (.int .i64 k)] w λe b=>e=.returned (.int .i64 k)/\Below w.heap.size w b:=by
 have c:(w.alloc (.cells #[.int .i64 0] 24)).cell? ⟨2,0,none⟩=some (.iface 278 (.agg #[.pointer (some ⟨12,29,none⟩)])):=by
  rw[World.cell?_alloc_lt _ _ ⟨2,0,none⟩ (World.block_lt_of_cell? _ _ d)];exact d
 have f:=Uy k ⟨w.heap.size,0,none⟩ (.int .i64 0) (w.alloc (.cells #[.int .i64 0] 24)) c (by simp) (by simp);go_enter Tryz.func46,Tryz.ntmps46
 go_wp2_with (go_at_call 106;refine f.mono ?_;rintro e b ⟨rfl,a⟩;have hc:b.cell? ⟨w.heap.size,0,none⟩=some (.int .i64 k):=(by subst a;exact TV w _ _ _ _ _ _ _);have g:Below w.heap.size w b:=(by subst a;exact Rc w _ _ _ _ _ _);clear a)
 go_ret;exact⟨rfl,g⟩
end
section
open Go.Proofs.Tryz Go.Joins Go.Sort
theorem JO{w:World}{b:Nat}{k:Int}(a:w.cell? ⟨2,0,none⟩=some iD)(h:w.cell? ⟨b,0,none⟩=some (.int .i64 k)):b≠2:=by
 intro e;subst e;rw[a]at h;simp[iD]at h
theorem lX(c:Int)(w:World)(a:w.cell? ⟨2,0,none⟩=some iD):Calls prog 46 #[.iface 24 (.int .i64 c)] w λe b=>e=.returned (.int .i64 c)/\Below w.heap.size w b:=
 AA c w a (Nat.lt_of_le_of_lt (gy _) (World.block_lt_of_cell? _ _ a))
theorem aad(be bj f:Nat)(d c:Value)(f0 f1:Int)(l:Option Nat)(i:Nat->Prop)(x n:J)(L r:List O)(k t v:Int)(s M G:Int)(hs:s=0/\M=aZ f0/\G=f1∨s=1/\M=f0/\G=aZ f1)(w:World)(q:w.cell? ⟨2,0,none⟩=some iD)(h:az w be bj f d c f0 f1 l i x L r)
  (hx:n.lo=x.lo/\n.hi=x.hi/\n.mode=x.mode)
  (hJ:∀W,ai W 0 bj f d c x->Calls prog 45 #[.pointer (some ⟨bj,0,none⟩),.int .i64 s,.agg #[.int .i64 k,.int .i64 t,.int .i64 v]] W λe g=>e=.returned (.tuple #[.slice none 0 0,.iface 24 (.int .i64 10)])/\ai g 0 bj f d c n/\Turned (λj=>j=bj) W g):
  Calls prog 11 #[.pointer (some ⟨be,0,none⟩),.int .i64 s,.agg #[.int .i64 k,.int .i64 t,.int .i64 v]] w λe g=>e=.returned (.tuple #[.slice none 0 0,.iface 24 (.int .i64 10)])/\az g be bj f d c M G l i n L r/\Turned (aT bj f d c l i) w g:=by
 have hbj:bj≠2:=JO q h.join.cells.1
 have HJ:Hid (∀W,Below w.heap.size w W->W.heap[w.heap.size]?=some (bu k t v)->Calls prog 45 #[.pointer (some ⟨bj,0,none⟩),.int .i64 s,.agg #[.int .i64 k,.int .i64 t,.int .i64 v]] W λe g=>e=.returned (.tuple #[.slice none 0 0,.iface 24 (.int .i64 10)])/\(g.cell? ⟨be,3,none⟩=some (.pointer (some ⟨bj,0,none⟩))/\g.cell? ⟨w.heap.size,0,none⟩=some (.int .i64 k)/\g.cell? ⟨w.heap.size,1,none⟩=some (.int .i64 t)/\g.cell? ⟨w.heap.size,2,none⟩=some (.int .i64 v))/\Hid (g.cell? ⟨2,0,none⟩=some iD/\az g be bj f d c f0 f1 l i n L r/\Turned (aT bj f d c l i) w g)):=by
  intro W T C;have hE:=h.below T;refine(hJ W hE.join).mono ?_;rintro e g ⟨rfl,A,Y⟩;have I:Turned (eP bj f d c) W g:=Y.mono (λk e=>.inl e);have H:=hE.joined A hx I (λk e=>.inl e);have hz:2<w.heap.size:=World.block_lt_of_cell? _ _ q;refine⟨rfl,⟨H.cells.2.2.2.1,bQ ((Y.block _ (aD.1 C).1 (λe=>by have:=h.join.lt;omega)).trans C)⟩,?_,H,(Turned.of_below (S:=aT bj f d c l i) T).trans I (λ_ _ e=>.inl e)⟩;exact(World.cell?_of_block (w:=w) (a:=⟨2,0,none⟩) ((Y.block 2 (fO hz T.size) (λe=>hbj e.symm)).trans (T.block 2 hz))).trans q
 have HZ:∀(o:Nat) (F:Int),(∀W,az W be bj f d c f0 f1 l i n L r->az (W.setCell ⟨be,o,none⟩ (.int .i64 F)) be bj f d c M G l i n L r)->∀m,az m be bj f d c f0 f1 l i n L r->Turned (aT bj f d c l i) w m->az (m.setCell ⟨be,o,none⟩ (.int .i64 F)).drew be bj f d c M G l i n L r/\Turned (aT bj f d c l i) w (m.setCell ⟨be,o,none⟩ (.int .i64 F)).drew:=by
  intro o F hf m E ht;refine⟨(hf m E).below ((zI _ _).drew),(ht.trans (bC (b:=be) (o:=o) (u:= .int .i64 F)) (λk _ e=>.inr (.inr (by rw[e];exact h.inS)))).trans (Turned.of_below (S:=λ_=>False) ((zI _ _).drew)) (λ_ _ e=>e.elim)⟩
 have r0:=h.r0;have r1:=h.r1;have N:=h.cells;have X:=h.blt;have hq:=ow 10;clear h hJ hx q
 rcases hs with⟨rfl,R,U⟩|⟨rfl,R,U⟩
 case' inl=>(have z:=hid (HZ 4 (aZ f0) λW E=>by rw[R,U];exact E.setf 4 _ _ _ (.inl ⟨rfl,rfl,rfl⟩) (wS r0));have HM:=hid (rJ r0);have Z:=trivial)
 case' inr=>(have z:=hid (HZ 5 (aZ f1) λW E=>by rw[R,U];exact E.setf 5 _ _ _ (.inr ⟨rfl,rfl,rfl⟩) (wS r1));have HM:=hid (rJ r1))
 all_goals
  clear HZ r0 r1 R U;go_enter func11,ntmps11;go_wp2;have V:Hid (Below w.heap.size w (w.alloc (bu k t v)).drew/\(w.alloc (bu k t v)).drew.heap[w.heap.size]?=some (bu k t v)):=⟨(wh _ _).drew,vw w (bu k t v)⟩;have P:(w.alloc (bu k t v)).cell? ⟨be,3,none⟩=some (.pointer (some ⟨bj,0,none⟩))/\(w.alloc (bu k t v)).cell? ⟨w.heap.size,0,none⟩=some (.int .i64 k)/\(w.alloc (bu k t v)).cell? ⟨w.heap.size,1,none⟩=some (.int .i64 t)/\(w.alloc (bu k t v)).cell? ⟨w.heap.size,2,none⟩=some (.int .i64 v):=⟨((wh w (bu k t v)).cell (p:=⟨be,3,none⟩) X).trans N.2.2.2.1,bQ (vw w (bu k t v))⟩;clear N
  go_region_held3 (λW=>W.cell? ⟨be,3,none⟩=some (.pointer (some ⟨bj,0,none⟩))/\W.cell? ⟨w.heap.size,0,none⟩=some (.int .i64 k)/\W.cell? ⟨w.heap.size,1,none⟩=some (.int .i64 t)/\W.cell? ⟨w.heap.size,2,none⟩=some (.int .i64 v)) (first|exact P|exact K|fail) (first
   |(go_at_call 45;refine(HJ.out _ V.out.1 V.out.2).mono ?_;rintro e w1 ⟨rfl,K,A⟩)
   |fail)
  clear P K V HJ
  go_wp2_with (first
   |(go_at_call 46;refine(lX _ _ A.out.1).mono ?_;rintro e m ⟨rfl,y⟩;have B:Hid (az m be bj f d c f0 f1 l i n L r/\Turned (aT bj f d c l i) w m):=⟨A.out.2.1.below y,A.out.2.2.trans (Turned.of_below (S:=λ_=>False) y) (λ_ _ e=>e.elim)⟩;clear y)
   |fail)
  have Q:=B.out.1.cells;have hc4:=And.intro (And.intro Q.2.2.2.2.1 Q.2.2.2.2.2.2.1) (And.intro (And.intro Q.2.2.2.2.2.1 Q.2.2.2.2.2.2.2) B.out.1.blt);clear Q
  go_region
  rw[HM.out];have Z2:=hid (z.out m B.out.1 B.out.2);clear z B A;revert Z2
  first|(have _:=Z;generalize(m.setCell ⟨be,4,none⟩ (.int .i64 (aZ f0))).drew=w3)|generalize(m.setCell ⟨be,5,none⟩ (.int .i64 (aZ f1))).drew=w3
  intro Z2;go_wp2;exact CU (v:= .tuple #[.slice none 0 0,.iface 24 (.int .i64 10)]) (by simp[results,Tryz.results11,go_sem]) rfl ⟨rfl,Z2.out⟩
theorem aab(be bj C:Nat)(B z:Value)(f0 f1:Int)(G:Option Nat)(K:Nat->Prop)(x:J)(L M:List O)(s c k t v:Int)(hq0:¬c=0)(hq1:¬c=10)(w:World)(b:w.cell? ⟨2,0,none⟩=some iD)(h:az w be bj C B z f0 f1 G K x L M)
  (u:∀W,ai W 0 bj C B z x->Calls prog 45 #[.pointer (some ⟨bj,0,none⟩),.int .i64 s,.agg #[.int .i64 k,.int .i64 t,.int .i64 v]] W λe a=>e=.returned (.tuple #[.slice none 0 0,.iface 24 (.int .i64 c)])/\Below W.heap.size W a):
  Calls prog 11 #[.pointer (some ⟨be,0,none⟩),.int .i64 s,.agg #[.int .i64 k,.int .i64 t,.int .i64 v]] w λe a=>e=.returned (.tuple #[.slice none 0 0,.iface 24 (.int .i64 c)])/\Below w.heap.size w a:=by
 have A:Hid (∀W,Below w.heap.size w W->W.heap[w.heap.size]?=some (bu k t v)->Calls prog 45 #[.pointer (some ⟨bj,0,none⟩),.int .i64 s,.agg #[.int .i64 k,.int .i64 t,.int .i64 v]] W λe a=>e=.returned (.tuple #[.slice none 0 0,.iface 24 (.int .i64 c)])/\(a.cell? ⟨be,3,none⟩=some (.pointer (some ⟨bj,0,none⟩))/\a.cell? ⟨w.heap.size,0,none⟩=some (.int .i64 k)/\a.cell? ⟨w.heap.size,1,none⟩=some (.int .i64 t)/\a.cell? ⟨w.heap.size,2,none⟩=some (.int .i64 v))/\Hid (a.cell? ⟨2,0,none⟩=some iD/\Below w.heap.size w a)):=by
  intro W o f;have F:=h.below o;refine(u W F.join).mono ?_;rintro e a ⟨rfl,y⟩;have r:Below w.heap.size w a:=o.trans (y.mono o.size);have n:=h.below r;have I:2<w.heap.size:=World.block_lt_of_cell? _ _ b;exact⟨rfl,⟨n.cells.2.2.2.1,bQ ((y.block _ (aD.1 f).1).trans f)⟩,(r.cell (p:=⟨2,0,none⟩) I).trans b,r⟩
 have i:=h.cells;have m:=h.blt;have hq:=ow c;clear h u b;go_enter func11,ntmps11;go_wp2;have l:Hid (Below w.heap.size w (w.alloc (bu k t v)).drew/\(w.alloc (bu k t v)).drew.heap[w.heap.size]?=some (bu k t v)):=⟨(wh _ _).drew,vw w (bu k t v)⟩;have j:(w.alloc (bu k t v)).cell? ⟨be,3,none⟩=some (.pointer (some ⟨bj,0,none⟩))/\(w.alloc (bu k t v)).cell? ⟨w.heap.size,0,none⟩=some (.int .i64 k)/\(w.alloc (bu k t v)).cell? ⟨w.heap.size,1,none⟩=some (.int .i64 t)/\(w.alloc (bu k t v)).cell? ⟨w.heap.size,2,none⟩=some (.int .i64 v):=⟨((wh w (bu k t v)).cell (p:=⟨be,3,none⟩) m).trans i.2.2.2.1,bQ (vw w (bu k t v))⟩;clear i
 go_region_held3 (λW=>W.cell? ⟨be,3,none⟩=some (.pointer (some ⟨bj,0,none⟩))/\W.cell? ⟨w.heap.size,0,none⟩=some (.int .i64 k)/\W.cell? ⟨w.heap.size,1,none⟩=some (.int .i64 t)/\W.cell? ⟨w.heap.size,2,none⟩=some (.int .i64 v)) (first|exact j|exact g|fail) (first
  |(go_at_call 45;refine(A.out _ l.out.1 l.out.2).mono ?_;rintro e w1 ⟨rfl,g,q⟩)
  |fail)
 clear j g l A
 go_wp2_with (first
  |(go_at_call 46;refine(lX _ _ q.out.1).mono ?_;rintro e H ⟨rfl,d⟩;have E:Hid (Below w.heap.size w H):=q.out.2.trans (d.mono q.out.2.size);clear d)
  |fail)
 exact CU (v:= .tuple #[.slice none 0 0,.iface 24 (.int .i64 c)]) (by simp[results,Tryz.results11,go_sem]) rfl ⟨rfl,E.out⟩
theorem pG(be bj g:Nat)(f d:Value)(f0 f1:Int)(j:Option Nat)(k:Nat->Prop)(x i:J)(L n:List O)(s t:Int)(w:World)(h:az w be bj g f d f0 f1 j k x L n)
  (u:i.lo=x.lo/\i.hi=x.hi/\i.mode=x.mode)
  (o:∀W,ai W 0 bj g f d x->Calls prog 51 #[.pointer (some ⟨bj,0,none⟩),.int .i64 s,.int .i64 t] W λe c=>e=.returned .nilIface/\∃b a,ai c 0 bj g b a i/\Turned (eP bj g f d) W c/\b.ownBlock=f.ownBlock/\a.ownBlock=d.ownBlock):
  Calls prog 15 #[.pointer (some ⟨be,0,none⟩),.int .i64 s,.int .i64 t] w λe c=>e=.returned .nilIface/\∃b a,az c be bj g b a f0 f1 j k i L n/\Turned (aT bj g f d j k) w c/\b.ownBlock=f.ownBlock/\a.ownBlock=d.ownBlock:=by
 have A:Hid (∀W,Below w.heap.size w W->Calls prog 51 #[.pointer (some ⟨bj,0,none⟩),.int .i64 s,.int .i64 t] W λe c=>e=.returned .nilIface/\c.cell? ⟨be,3,none⟩=some (.pointer (some ⟨bj,0,none⟩))/\Hid (∃b a,az c be bj g b a f0 f1 j k i L n/\Turned (aT bj g f d j k) w c/\b.ownBlock=f.ownBlock/\a.ownBlock=d.ownBlock)):=by
  intro W v;have q:=h.below v;refine(o W q.join).mono ?_;rintro e c ⟨rfl,b,a,m,z,p,y⟩;have l:=q.joined m u z (jg (.inl p) (.inl y));exact⟨rfl,l.cells.2.2.2.1,b,a,l,(Turned.of_below (S:=aT bj g f d j k) v).trans z (λ_ _ e=>.inl e),p,y⟩
 have hc0:=h.cells.2.2.2.1;have hlt:=h.blt;clear h o u;have r:Hid (Below w.heap.size w w/\Below w.heap.size w w.drew):=⟨zI _ _,(zI _ _).drew⟩;go_enter func15,ntmps15
 go_wp2_with (first
  |(go_at_call 51;refine(A.out _ (by first|exact r.out.1|exact r.out.2)).mono ?_;rintro e w1 ⟨rfl,hc1,m⟩)
  |fail)
 go_ret;exact⟨rfl,m.out⟩
end
end Go.Proofs.YthfpipieboophaaGreatDoor
