import Derived.Stop.Asserts
import Derived.Test.YthfpipieboophaaGreatDoorZEnd
namespace Go.Proofs.YthfpipieboophaaGreatDoor
set_option maxRecDepth 100000
set_option maxHeartbeats 40000000
open Go.RowKit
section
open Go.Proofs.Tryz Go.Extern.Stop Go.Stop Go.Extern
theorem Tryz.valueOf100(t:Addr)(w:World):(ReflectliteValue.unpack (.iface 192 (.pointer (some t)))).run prog w
  = .ok (.agg #[.pointer (some ⟨12,192,none⟩),.pointer (some ⟨w.heap.size,0,none⟩),.int .u64 150]) (w.alloc (.cells #[.pointer (some t)] 192)):=by kernel_rfl
theorem Tryz.type100(a:Addr)(w:World):(ReflectliteValue.methodAny (ReflectliteValue.valueError "reflectlite.Value.Type" 0) (λt _ _ _=>ReflectliteType.toType t) #[.agg #[.pointer (some ⟨12,192,none⟩),.pointer (some a),.int .u64 150]]).run prog w
  = .ok (.iface 278 (.agg #[.pointer (some ⟨12,192,none⟩)])) w:=by kernel_rfl
theorem Tryz.methodKind(h:Value)(w:World):(Go.method 520 278 (.agg #[h]) "Kind").run prog w=.ok (338,h) w:=by kernel_rfl
theorem Tryz.kind100(w:World):((ReflectliteType.abiMethod λt=>(λa:Nat=>Value.int IntKind.u8 (a:Int)) <$>Rtype.kind t) #[.pointer (some ⟨12,192,none⟩)]).run prog w=.ok (.int .u8 22) w:=by kernel_rfl
theorem Tryz.kind40(w:World):((ReflectliteType.abiMethod λt=>(λa:Nat=>Value.int IntKind.u8 (a:Int)) <$>Rtype.kind t) #[.pointer (some ⟨12,24,none⟩)]).run prog w=.ok (.int .u8 2) w:=by kernel_rfl
theorem zz(z:Sem Value)(f:TypeId->Addr->Nat->Nat->Sem Value)(v:Value):
  ReflectliteValue.method z f #[v]=(do match <-ReflectliteValue.parts v with|none=>z|some (t,a,fl)=>f t a fl (fl % 32)):=rfl
theorem Tryz.parts100(a:Addr)(w:World):(ReflectliteValue.parts (.agg #[.pointer (some ⟨12,192,none⟩),.pointer (some a),.int .u64 150])).run prog w=.ok (some (192,a,150)) w:=by kernel_rfl
theorem Tryz.isNil100(a p:Addr)(W:World)(ha:W.cell? a=some (.pointer (some p))):
  (ReflectliteValue.method (ReflectliteValue.valueError "reflectlite.Value.IsNil" 0) ReflectliteValue.isNil #[.agg #[.pointer (some ⟨12,192,none⟩),.pointer (some a),.int .u64 150]]).run prog W=.ok (.bool false) W:=by
 rw[zz];simp only[Sem.run_bind,Tryz.parts100,Result.andThen];simp[ReflectliteValue.isNil,loadVar,isAgg,underlying,underlying192,ha,Result.andThen]
theorem Tryz.methodElem(h:Value)(w:World):(Go.method 520 278 (.agg #[h]) "Elem").run prog w=.ok (352,.agg #[h]) w:=by kernel_rfl
theorem Tryz.methodImplements(h:Value)(w:World):(Go.method 520 278 (.agg #[h]) "Implements").run prog w=.ok (353,.agg #[h]) w:=by kernel_rfl
theorem Tryz.methodAssignableTo(h:Value)(w:World):(Go.method 520 278 (.agg #[h]) "AssignableTo").run prog w=.ok (350,.agg #[h]) w:=by kernel_rfl
theorem Tryz.elem100(w:World):(ReflectliteType.method ReflectliteType.elem #[.agg #[.pointer (some ⟨12,192,none⟩)]]).run prog w=.ok (.iface 278 (.agg #[.pointer (some ⟨12,24,none⟩)])) w:=by kernel_rfl
theorem Tryz.implements40(w:World):(ReflectliteType.relation "Implements" ReflectliteType.implements_ #[.agg #[.pointer (some ⟨12,24,none⟩)],.iface 278 (.agg #[.pointer (some ⟨12,29,none⟩)])]).run prog w=.ok (.bool true) w:=by kernel_rfl
theorem Tryz.typeOf40(v:Value)(w:World):(ReflectliteType.typeOf #[.iface 24 v]).run prog w=.ok (.iface 278 (.agg #[.pointer (some ⟨12,24,none⟩)])) w:=by kernel_rfl
theorem Tryz.assignable40(w:World):(ReflectliteType.relation "AssignableTo" ReflectliteType.assignableTo #[.agg #[.pointer (some ⟨12,24,none⟩)],.iface 278 (.agg #[.pointer (some ⟨12,24,none⟩)])]).run prog w=.ok (.bool true) w:=by kernel_rfl
theorem Tryz.valueOf40(k:Int)(w:World):(ReflectliteValue.unpack (.iface 24 (.int .i64 k))).run prog w
  = .ok (.agg #[.pointer (some ⟨12,24,none⟩),.pointer (some ⟨w.heap.size,0,none⟩),.int .u64 130]) (w.alloc (.cells #[.int .i64 k] 24)):=by kernel_rfl
theorem Tryz.elemOf100(w:World):(Rtype.elem? 192).run prog w=.ok (some 24) w:=by kernel_rfl
theorem Tryz.mk40(p:Addr)(w:World):(ReflectliteValue.mk 24 p ReflectliteValue.flagAddr).run prog w=.ok (.agg #[.pointer (some ⟨12,24,none⟩),.pointer (some p),.int .u64 386]) w:=by kernel_rfl
theorem Tryz.elemV100(a p:Addr)(W:World)(ha:W.cell? a=some (.pointer (some p))):
  (ReflectliteValue.method (ReflectliteValue.valueError "reflectlite.Value.Elem" 0) ReflectliteValue.elem #[.agg #[.pointer (some ⟨12,192,none⟩),.pointer (some a),.int .u64 150]]).run prog W
   = .ok (.agg #[.pointer (some ⟨12,24,none⟩),.pointer (some p),.int .u64 386]) W:=by
 rw[zz];simp only[Sem.run_bind,Tryz.parts100,Result.andThen];simp[ReflectliteValue.elem,loadVar,isAgg,underlying,underlying192,ha,Result.andThen,Tryz.elemOf100,Tryz.mk40]
theorem rls(v x:Value):ReflectliteValue.set #[v,x]=(do
  let(some (dst,a,fl),some (src,b,_)):=(<-ReflectliteValue.parts v,<-ReflectliteValue.parts x)
   |unsupported (.noEntry "extern/(internal/reflectlite.Value).Set.zeroValue")
  if fl/ReflectliteValue.flagAddr % 2==0 then unsupported (.noEntry "extern/(internal/reflectlite.Value).Set.unaddressable")
  let val<-loadVar src b
  if <-Rtype.directlyAssignable dst src then storeVar dst a val
  else if <-Rtype.implements dst src then
   if(<-Rtype.kind src)==20 then
    match val with
    |.nilIface=>unsupported (.noEntry "extern/reflectlite: a nil value of one interface type handed on as a value of another")
    |_=>storeVar dst a val
   else storeVar dst a (.iface src val)
  else panicString ("reflectlite.Set: value of type " ++(<-Rtype.spelt src)++ " is not assignable to type " ++(<-Rtype.spelt dst))
  pure (.tuple #[])):=rfl
theorem Tryz.parts40a(a:Addr)(w:World):(ReflectliteValue.parts (.agg #[.pointer (some ⟨12,24,none⟩),.pointer (some a),.int .u64 386])).run prog w=.ok (some (24,a,386)) w:=by kernel_rfl
theorem Tryz.parts40(a:Addr)(w:World):(ReflectliteValue.parts (.agg #[.pointer (some ⟨12,24,none⟩),.pointer (some a),.int .u64 130])).run prog w=.ok (some (24,a,130)) w:=by kernel_rfl
theorem Tryz.direct40(w:World):(Rtype.directlyAssignable 24 24).run prog w=.ok true w:=by kernel_rfl
theorem Tryz.set40(a b:Addr)(k:Int)(old:Value)(W:World)(e:W.cell? b=some (.int .i64 k))(d:W.cell? a=some old)(c:W.frozen? a=false):
  (ReflectliteValue.set #[.agg #[.pointer (some ⟨12,24,none⟩),.pointer (some a),.int .u64 386],.agg #[.pointer (some ⟨12,24,none⟩),.pointer (some b),.int .u64 130]]).run prog W
   = .ok (.tuple #[]) (W.setCell a (.int .i64 k)):=by
 rw[rls];simp only[Sem.run_bind,Tryz.parts40a,Tryz.parts40,Result.andThen];simp[ReflectliteValue.flagAddr,loadVar,isAgg,underlying,underlying24,e,Result.andThen,Tryz.direct40,storeVar,Value.cells,storeCells,Addr.add];rw[run_store prog W a _ _ (by rfl)];simp[d,c]
theorem Uy(k:Int)(t:Addr)(old:Value)(w:World)(hg:w.cell? ⟨2,0,none⟩=some (.iface 278 (.agg #[.pointer (some ⟨12,29,none⟩)])))(ht0:w.cell? t=some old)(hf0:w.frozen? t=false):
  Calls prog 106 #[.iface 24 (.int .i64 k),.iface 192 (.pointer (some t))] w λev w'=>ev=.returned (.bool true)/\w'=((((w.alloc (.cells #[.pointer (some t)] 192)).alloc (.cells #[.pointer (some ⟨12,192,none⟩),.pointer (some ⟨w.heap.size,0,none⟩),.int .u64 150] 209)).alloc (.cells #[.pointer (some ⟨12,192,none⟩),.pointer (some ⟨w.heap.size,0,none⟩),.int .u64 150] 209)).alloc (.cells #[.int .i64 k] 24)).setCell t (.int .i64 k):=by
 have h6:= @run_callFunc_extern prog 123 _ (λargs=>ReflectliteValue.unpack (args.getD 0 (.tuple #[]))) func123 (by kernel_rfl) (by kernel_rfl) (by kernel_rfl) (by kernel_rfl);have h7:= @run_callFunc_extern prog 176 _ (ReflectliteValue.methodAny (ReflectliteValue.valueError "reflectlite.Value.Type" 0) (λt _ _ _=>ReflectliteType.toType t)) func176 (by kernel_rfl) (by kernel_rfl) (by kernel_rfl) (by kernel_rfl);have h8:= @run_callFunc_extern prog 177 _ (ReflectliteValue.method (ReflectliteValue.valueError "reflectlite.Value.IsNil" 0) ReflectliteValue.isNil) func177 (by kernel_rfl) (by kernel_rfl) (by kernel_rfl) (by kernel_rfl);have h27:= @run_callFunc_extern prog 338 _ (ReflectliteType.abiMethod λt=>do pure (.int .u8 (<-Rtype.kind t))) func338 (by kernel_rfl) (by kernel_rfl) (by kernel_rfl) (by kernel_rfl);have h37:= @run_callFunc_extern prog 352 _ (ReflectliteType.method ReflectliteType.elem) func352 (by kernel_rfl) (by kernel_rfl) (by kernel_rfl) (by kernel_rfl);have h38:= @run_callFunc_extern prog 353 _ (ReflectliteType.relation "Implements" ReflectliteType.implements_) func353 (by kernel_rfl) (by kernel_rfl) (by kernel_rfl) (by kernel_rfl);have h10:= @run_callFunc_extern prog 247 _ ReflectliteType.typeOf func247 (by kernel_rfl) (by kernel_rfl) (by kernel_rfl) (by kernel_rfl);have h35:= @run_callFunc_extern prog 350 _ (ReflectliteType.relation "AssignableTo" ReflectliteType.assignableTo) func350 (by kernel_rfl) (by kernel_rfl) (by kernel_rfl) (by kernel_rfl);have h11:= @run_callFunc_extern prog 248 _ (ReflectliteValue.method (ReflectliteValue.valueError "reflectlite.Value.Elem" 0) ReflectliteValue.elem) func248 (by kernel_rfl) (by kernel_rfl) (by kernel_rfl) (by kernel_rfl);have h12:= @run_callFunc_extern prog 249 _ ReflectliteValue.set func249 (by kernel_rfl) (by kernel_rfl) (by kernel_rfl) (by kernel_rfl);have tO:=Tryz.typeOf40;have mA:=Tryz.methodAssignableTo;have a25:=Tryz.assignable40;have v25:=Tryz.valueOf40;have f6:=Tryz.valueOf100;have f7:=Tryz.type100;have mK:=Tryz.methodKind;have mE:=Tryz.methodElem;have mI:=Tryz.methodImplements;have k27:=Tryz.kind100;have k25:=Tryz.kind40;have e27:=Tryz.elem100;have i25:=Tryz.implements40;have n8:=Tryz.isNil100 ⟨w.heap.size,0,none⟩ t ((w.alloc (.cells #[.pointer (some t)] 192)).alloc (.cells #[.pointer (some ⟨12,192,none⟩),.pointer (some ⟨w.heap.size,0,none⟩),.int .u64 150] 209)) (by simp);have hlt:2<w.heap.size:=World.block_lt_of_cell? _ _ hg
 have hg2:((w.alloc (.cells #[.pointer (some t)] 192)).alloc (.cells #[.pointer (some ⟨12,192,none⟩),.pointer (some ⟨w.heap.size,0,none⟩),.int .u64 150] 209)).cell? ⟨2,0,none⟩=some (.iface 278 (.agg #[.pointer (some ⟨12,29,none⟩)])):=by
  rw[World.cell?_alloc_lt _ _ ⟨2,0,none⟩ (by simp;omega),World.cell?_alloc_lt _ _ ⟨2,0,none⟩ hlt];exact hg
 have htl:t.block<w.heap.size:=by
  rcases Nat.lt_or_ge t.block w.heap.size with h|h
  .exact h
  .simp[World.cell?,Array.getElem?_eq_none h]at ht0
 have el:=Tryz.elemV100 ⟨w.heap.size,0,none⟩ t (((w.alloc (.cells #[.pointer (some t)] 192)).alloc (.cells #[.pointer (some ⟨12,192,none⟩),.pointer (some ⟨w.heap.size,0,none⟩),.int .u64 150] 209)).alloc (.cells #[.pointer (some ⟨12,192,none⟩),.pointer (some ⟨w.heap.size,0,none⟩),.int .u64 150] 209)) (by rw[World.cell?_alloc_lt _ _ ⟨w.heap.size,0,none⟩ (by simp;omega)];simp)
 have st:=Tryz.set40 t ⟨w.heap.size+1+1+1,0,none⟩ k old ((((w.alloc (.cells #[.pointer (some t)] 192)).alloc (.cells #[.pointer (some ⟨12,192,none⟩),.pointer (some ⟨w.heap.size,0,none⟩),.int .u64 150] 209)).alloc (.cells #[.pointer (some ⟨12,192,none⟩),.pointer (some ⟨w.heap.size,0,none⟩),.int .u64 150] 209)).alloc (.cells #[.int .i64 k] 24))
  (by rw[World.cell?_alloc_at _ _ _ _ (by simp)];rfl)
  (by rw[World.cell?_alloc_lt _ _ t (by simp;omega),World.cell?_alloc_lt _ _ t (by simp;omega),World.cell?_alloc_lt _ _ t (by simp;omega),World.cell?_alloc_lt _ _ t htl];exact ht0)
  (by rw[World.frozen?_alloc_old _ _ t (by simp;omega),World.frozen?_alloc_old _ _ t (by simp;omega),World.frozen?_alloc_old _ _ t (by simp;omega),World.frozen?_alloc_old _ _ t (Nat.ne_of_lt htl)];exact hf0)
 go_enter func106,ntmps106;go_wp2;refine wp_loop_rounds 1 ?_;rw[rounds_succ];go_wp2;go_ret;exact⟨rfl,rfl⟩
end
section
open Go.Joins
theorem Rc(w:World)(e c a d b:Obj)(v:Value):Below w.heap.size w ((((((w.alloc e).alloc c).alloc a).alloc d).alloc b).setCell ⟨w.heap.size,0,none⟩ v):=
 (((((below_alloc1 w _).alloc (by simp) _).alloc (by simp;omega) _).alloc (by simp;omega) _).alloc (by simp;omega) _).setCell (Nat.le_refl _) _
theorem TV(w:World)(a:Value)(t:TypeId)(d b c e:Obj)(v:Value):((((((w.alloc (.cells #[a] t)).alloc d).alloc b).alloc c).alloc e).setCell ⟨w.heap.size,0,none⟩ v).cell? ⟨w.heap.size,0,none⟩=some v:=by
 refine World.cell?_setCell_same _ _ _ (u:=a) ?_;rw[World.cell?_alloc_lt _ _ _ (by simp;omega),World.cell?_alloc_lt _ _ _ (by simp;omega),World.cell?_alloc_lt _ _ _ (by simp;omega),World.cell?_alloc_lt _ _ _ (by simp)];simp
theorem AA(k:Int)(w:World)(d:w.cell? ⟨2,0,none⟩=some (.iface 278 (.agg #[.pointer (some ⟨12,29,none⟩)])))(_hz:0<w.heap.size):
  Calls Tryz.prog 46 #[.iface 24 (.int .i64 k)] w λe b=>e=.returned (.int .i64 k)/\Below w.heap.size w b:=by
 have c:(w.alloc (.cells #[.int .i64 0] 24)).cell? ⟨2,0,none⟩=some (.iface 278 (.agg #[.pointer (some ⟨12,29,none⟩)])):=by
  rw[World.cell?_alloc_lt _ _ ⟨2,0,none⟩ (World.block_lt_of_cell? _ _ d)];exact d
 have g:=Uy k ⟨w.heap.size,0,none⟩ (.int .i64 0) (w.alloc (.cells #[.int .i64 0] 24)) c (by simp) (by simp);go_enter Tryz.func46,Tryz.ntmps46
 go_wp2_with (go_at_call 106;refine g.mono ?_;rintro e b ⟨rfl,a⟩;have hc:b.cell? ⟨w.heap.size,0,none⟩=some (.int .i64 k):=(by subst a;exact TV w _ _ _ _ _ _ _);have f:Below w.heap.size w b:=(by subst a;exact Rc w _ _ _ _ _ _);clear a)
 go_ret;exact⟨rfl,f⟩
end
section
open Go.Proofs.Tryz Go.Sort
theorem JO{w:World}{b:Nat}{k:Int}(a:w.cell? ⟨2,0,none⟩=some iD)(h:w.cell? ⟨b,0,none⟩=some (.int .i64 k)):b≠2:=by
 intro e;subst e;rw[a]at h;simp[iD]at h
theorem lX(c:Int)(w:World)(a:w.cell? ⟨2,0,none⟩=some iD):Calls prog 46 #[.iface 24 (.int .i64 c)] w λe b=>e=.returned (.int .i64 c)/\Below w.heap.size w b:=
 AA c w a (Nat.lt_of_le_of_lt (aW _) (World.block_lt_of_cell? _ _ a))
theorem pG(be bj f:Nat)(g d:Value)(f0 f1:Int)(i:Option Nat)(k:Nat->Prop)(x j:J)(L m:List O)(s t:Int)(w:World)(h:az w be bj f g d f0 f1 i k x L m)
  (v:j.lo=x.lo/\j.hi=x.hi/\j.mode=x.mode)
  (r:∀W,ai W 0 bj f g d x->Calls prog 51 #[.pointer (some ⟨bj,0,none⟩),.int .i64 s,.int .i64 t] W λe c=>e=.returned .nilIface/\∃b a,ai c 0 bj f b a j/\Turned (eP bj f g d) W c/\b.ownBlock=g.ownBlock/\a.ownBlock=d.ownBlock):
  Calls prog 15 #[.pointer (some ⟨be,0,none⟩),.int .i64 s,.int .i64 t] w λe c=>e=.returned .nilIface/\∃b a,az c be bj f b a f0 f1 i k j L m/\Turned (aT bj f g d i k) w c/\b.ownBlock=g.ownBlock/\a.ownBlock=d.ownBlock:=by
 have A:Hid (∀W,Below w.heap.size w W->Calls prog 51 #[.pointer (some ⟨bj,0,none⟩),.int .i64 s,.int .i64 t] W λe c=>e=.returned .nilIface/\c.cell? ⟨be,3,none⟩=some (.pointer (some ⟨bj,0,none⟩))/\Hid (∃b a,az c be bj f b a f0 f1 i k j L m/\Turned (aT bj f g d i k) w c/\b.ownBlock=g.ownBlock/\a.ownBlock=d.ownBlock)):=by
  intro W y;have z:=h.below y;refine(r W z.join).mono ?_;rintro e c ⟨rfl,b,a,n,o,u,p⟩;have l:=z.joined n v o (jg (.inl u) (.inl p));exact⟨rfl,l.cells.2.2.2.1,b,a,l,(Turned.of_below (S:=aT bj f g d i k) y).trans o (λ_ _ e=>.inl e),u,p⟩
 have hc0:=h.cells.2.2.2.1;have hlt:=h.blt;clear h r v;have q:Hid (Below w.heap.size w w/\Below w.heap.size w w.drew):=⟨iL _ _,(iL _ _).drew⟩;go_enter func15,ntmps15
 go_wp2_with (first
  |(go_at_call 51;refine(A.out _ (by first|exact q.out.1|exact q.out.2)).mono ?_;rintro e w1 ⟨rfl,hc1,n⟩)
  |fail)
 go_ret;exact⟨rfl,n.out⟩
end
section
open Go.Proofs.Tryz Go.Joins Go.Sort
variable{k H m d bj y i:Nat}{G:Int->Option Tl}{w W W':World}{S:Nat->Prop}{E B F:Value}{f0 f1:Int}{x:J}{C:List Ch}
structure vw(w:World)(d bj y:Nat)(E B:Value)(f0 f1:Int)(z:Option Nat)(A:Nat->Prop)(x:J)(m:Nat):Prop where
 head:∃cs T,w.heap[d]?=some (.cells cs T)/\Head cs bj x f0 f1
 join:ai w 0 bj y E B x
 bag:∃Lb:List O,Lb.length<=m/\aP w d 6 z Lb.length Lb
 grp:∃G,lu w d 8 m A G
 jb:∀k,eP bj y E B k->k≠d/\z≠some k/\¬A k
 bg:∀k,z=some k->¬A k
 r0:0<=f0/\f0<=9223372036854775807
 r1:0<=f1/\f1<=9223372036854775807
section
variable{w l:World}{d bj y:Nat}{E B:Value}{f0 f1:Int}{z:Option Nat}{A:Nat->Prop}{x:J}{m:Nat}
theorem az.weak{a b:List O}(h:az w d bj y E B f0 f1 z A x a b)(c:a.length<=m)(e:b.length<=m):vw w d bj y E B f0 f1 z A x m:=
 ⟨h.head,h.join,⟨a,c,h.bag⟩,⟨_,h.grp.mono e⟩,h.jb,h.bg,h.r0,h.r1⟩
theorem vw.lt(h:vw w d bj y E B f0 f1 z A x m)(a:aT bj y E B z A k):k<w.heap.size:=by
 obtain⟨Lb,_,c⟩:=h.bag;obtain⟨G,b⟩:=h.grp
 rcases a with a|a|a
 .exact h.join.foot_lt a
 .exact(c.ne a).2
 .exact b.lt a
theorem vw.blt(h:vw w d bj y E B f0 f1 z A x m):d<w.heap.size:=by
 obtain⟨Lb,_,a⟩:=h.bag;exact a.lt
theorem vw.inS(h:vw w d bj y E B f0 f1 z A x m):A d:=by
 obtain⟨G,a⟩:=h.grp;exact a.in.1
theorem vw.glt(h:vw w d bj y E B f0 f1 z A x m)(a:A k):k<w.heap.size:=h.lt (.inr (.inr a))
theorem vw.blt2(h:vw w d bj y E B f0 f1 z A x m)(a:z=some k):k≠d/\k<w.heap.size:=by
 obtain⟨Lb,_,b⟩:=h.bag;exact b.ne a
theorem vw.still(h:vw w d bj y E B f0 f1 z A x m)(p:w.heap.size<=l.heap.size)(a:∀k,aT bj y E B z A k->l.heap[k]?=w.heap[k]?):vw l d bj y E B f0 f1 z A x m:=by
 have c:l.heap[d]?=w.heap[d]? :=a d (.inr (.inr h.inS));obtain⟨cs,T,n,f⟩:=h.head;obtain⟨j,g,b⟩:=h.bag;obtain⟨G,o⟩:=h.grp;exact⟨⟨cs,T,c.trans n,f⟩,h.join.still (λk e=>a k (.inl e)),⟨j,g,b.kept c (λk e=>a k (.inr (.inl e)))⟩,⟨G,o.kept p (λk e=>a k (.inr (.inr e)))⟩,h.jb,h.bg,h.r0,h.r1⟩
theorem vw.below(h:vw w d bj y E B f0 f1 z A x m)(a:Below w.heap.size w l):vw l d bj y E B f0 f1 z A x m:=h.still a.size (λ_ e=>a.block _ (h.lt e))
theorem vw.bagged(h:vw w d bj y E B f0 f1 z A x m){c:Option Nat}{q:Nat}{g:List O}(K:aP l d 6 c H g)(v:g.length<=q)(n:m<=q)(a:gX d 6 z w l)(t:Moves w z c):vw l d bj y E B f0 f1 c A x q:=by
 obtain⟨cs,T,I,u⟩:=h.head;obtain⟨G,o⟩:=h.grp;refine⟨?_,h.join.still (λk e=>a.block k (h.join.foot_lt e) (h.jb k e).1 (h.jb k e).2.1),⟨g,v,K.tight⟩,⟨G,(o.other a.size (λcs T L=>?_) (λj b f=>a.block j (o.lt b) f (λe=>h.bg j e b))).mono n⟩,λk e=>⟨(h.jb k e).1,?_,(h.jb k e).2.2⟩,λk e=>?_,h.r0,h.r1⟩
 .obtain⟨cs',r,_,p⟩:=a.this cs T I;exact⟨cs',T,r,u.same (λi hi=>p i (by omega) (by omega))⟩
 .obtain⟨cs',r,_,p⟩:=a.this cs T L;exact⟨cs',r,p 8 (by omega) (by omega)⟩
 .rcases t with rfl|⟨j,rfl,b⟩
  .exact(h.jb k e).2.1
  .intro s;cases s;have:=h.join.foot_lt e;omega
 .rcases t with rfl|⟨j,rfl,b⟩
  .exact h.bg k e
  .cases e;intro s;have:=o.lt s;omega
theorem vw.grouped(h:vw w d bj y E B f0 f1 z A x m)(n:lu l d 8 H (More A w l) G)(o:m<=H)(c:kF A d 8 w l):vw l d bj y E B f0 f1 z (More A w l) x H:=by
 obtain⟨cs,T,r,j⟩:=h.head;obtain⟨q,p,a⟩:=h.bag;refine⟨?_,h.join.still (λk e=>c.block k (h.join.foot_lt e) (h.jb k e).2.2),⟨q,aH p o,a.other (λcs T s=>?_) (λk e=>c.block k (a.ne e).2 (h.bg k e))⟩,⟨G,n⟩,λk e=>⟨(h.jb k e).1,(h.jb k e).2.1,?_⟩,λk e=>?_,h.r0,h.r1⟩
 .obtain⟨cs',g,_,f⟩:=c.this cs T r;exact⟨cs',T,g,j.same (λi hi=>f i (by omega))⟩
 .obtain⟨cs',g,_,f⟩:=c.this cs T s;exact⟨cs',g,f 6 (by omega),f 7 (by omega)⟩
 .rintro(b|b)
  .exact(h.jb k e).2.2 b
  .have:=h.join.foot_lt e;omega
 .rintro(b|b)
  .exact h.bg k e b
  .have:=(a.ne e).2;omega
theorem vw.joined(h:vw w d bj y E B f0 f1 z A x m){n b:Value}{f:J}(t:ai l 0 bj y n b f)(o:f.lo=x.lo/\f.hi=x.hi/\f.mode=x.mode)(g:Turned (eP bj y E B) w l)(s:∀k,eP bj y n b k->eP bj y E B k∨w.heap.size<=k):vw l d bj y n b f0 f1 z A f m:=by
 obtain⟨v,u,a⟩:=h.bag;obtain⟨G,j⟩:=h.grp;have r:l.heap[d]?=w.heap[d]? :=g.block d h.blt (λe=>(h.jb d e).1 rfl);obtain⟨cs,T,I,q⟩:=h.head;refine⟨⟨cs,T,r.trans I,?_⟩,t,⟨v,u,a.kept r (λk e=>g.block k (a.ne e).2 (λc=>(h.jb k c).2.1 e))⟩,⟨G,j.kept g.size (λk e=>g.block k (j.lt e) (λc=>(h.jb k c).2.2 e))⟩,λk e=>?_,h.bg,h.r0,h.r1⟩
 .unfold Head at q⊢;rw[o.1,o.2.1,o.2.2];exact q
 .rcases s k e with c|c
  .exact h.jb k c
  .have a1:=h.blt;exact⟨by omega,λp=>by have:=(a.ne p).2;omega,λp=>by have:=j.lt p;omega⟩
theorem vw.setf(h:vw w d bj y E B f0 f1 z A x m)(i:Nat)(n o c:Int)(hi:i=4/\o=n/\c=f1∨i=5/\o=f0/\c=n)(r:0<=n/\n<=9223372036854775807):vw (w.setCell ⟨d,i,none⟩ (.int .i64 n)) d bj y E B o c z A x m:=by
 have g:∀k,k≠d->(w.setCell ⟨d,i,none⟩ (.int .i64 n)).heap[k]?=w.heap[k]? :=λk e=>iJ _ _ _ _ e
 have p:∀cs T,w.heap[d]?=some (.cells cs T)->(w.setCell ⟨d,i,none⟩ (.int .i64 n)).heap[d]?=some (.cells (cs.setIfInBounds i (.int .i64 n)) T):=λcs T e=>fZ e _
 have a:∀(cs:Array Value) j,j≠i->(cs.setIfInBounds i (.int .i64 n))[j]?=cs[j]? :=λcs j e=>by rw[Array.getElem?_setIfInBounds];simp[Ne.symm e]
 obtain⟨cs,T,P,K⟩:=h.head;obtain⟨N,M,b⟩:=h.bag;obtain⟨G,L⟩:=h.grp
 have hi6:i<6:=by omega
 refine⟨⟨_,T,p cs T P,?_⟩,h.join.still (λk e=>g k (h.jb k e).1),⟨N,M,b.other (λcs T e=>⟨_,p cs T e,a cs 6 (by omega),a cs 7 (by omega)⟩) (λk e=>g k (b.ne e).1)⟩,⟨G,L.other (by simp) (λcs T e=>⟨_,p cs T e,a cs 8 (by omega)⟩) (λj _ f=>g j f)⟩,h.jb,h.bg,?_,?_⟩
 .obtain⟨s,t,u,v,q,I⟩:=K
  rcases hi with⟨rfl,rfl,rfl⟩|⟨rfl,rfl,rfl⟩
  .refine⟨(a cs 0 (by omega)).trans s,(a cs 1 (by omega)).trans t,(a cs 2 (by omega)).trans u,(a cs 3 (by omega)).trans v,?_,(a cs 5 (by omega)).trans I⟩;have:4<cs.size:=(ax.1 q).1;simp[this]
  .refine⟨(a cs 0 (by omega)).trans s,(a cs 1 (by omega)).trans t,(a cs 2 (by omega)).trans u,(a cs 3 (by omega)).trans v,(a cs 4 (by omega)).trans q,?_⟩;have:5<cs.size:=(ax.1 I).1;simp[this]
 .rcases hi with⟨_,rfl,_⟩|⟨_,rfl,_⟩
  .exact r
  .exact h.r0
 .rcases hi with⟨_,_,rfl⟩|⟨_,_,rfl⟩
  .exact h.r1
  .exact r
theorem vw.cells(h:vw w d bj y E B f0 f1 z A x m):
  w.cell? ⟨d,0,none⟩=some (.int .i64 x.lo)/\w.cell? ⟨d,1,none⟩=some (.int .i64 x.hi)/\w.cell? ⟨d,2,none⟩=some (.int .i64 x.mode)/\w.cell? ⟨d,3,none⟩=some (.pointer (some ⟨bj,0,none⟩))/\w.cell? ⟨d,4,none⟩=some (.int .i64 f0)/\w.cell? ⟨d,5,none⟩=some (.int .i64 f1)/\w.frozen? ⟨d,4,none⟩=false/\w.frozen? ⟨d,5,none⟩=false:=by
 obtain⟨cs,T,a,a0,a1,a2,a3,a4,a5⟩:=h.head;refine⟨?_,?_,?_,?_,?_,?_,fV a 4,fV a 5⟩
 all_goals (rw[fq a];assumption)
end
theorem ac0(G:Int->Option Tl)(x:O):(∃τ,G x.k=some τ/\OQ x τ)∨noG G x:=by
 cases h:G x.k with
 |none=>exact .inr (.inl h)
 |some τ=>
  by_cases hy:OQ x τ
  .exact .inl ⟨τ,rfl,hy⟩
  .exact .inr (.inr ⟨τ,h,Classical.not_imp.1 hy⟩)
theorem lu.more_of{l:World}{b o:Nat}(h:lu l b o m S G):lu l b o m (More S w l) G:=by
 obtain⟨z,n,f,c,g⟩:=h;exact⟨z,n,f,λj a=>.inl (c j a),λj a=>a.elim (g j) (λe=>e.2)⟩
theorem aek(d bj y:Nat)(E B:Value)(f0 f1:Int)(z:Option Nat)(A:Nat->Prop)(x:J)(m:Nat)(o:O)(g:Bool)(w:World)(h:vw w d bj y E B f0 f1 z A x m)(f:o.wf)(hm:m<=3000000):
  Calls prog 47 #[.pointer (some ⟨d,0,none⟩),vC o g] w λe l=>e=.returned (.tuple #[])/\∃b K,vw l d bj y E B f0 f1 b K x (m+2)/\(∀k,b=some k->z=some k∨w.heap.size<=k)/\(∀k,K k->A k∨w.heap.size<=k)/\Turned (λk=>k=d∨z=some k∨A k) w l:=by
 have hB:∀W,vw W d bj y E B f0 f1 z A x m->Calls prog 107 #[.pointer (some ⟨d,6,none⟩),vC o g] W λe l=>(∃r,e=.returned r)/\∃b H V,V.length<=m+1/\aP l d 6 b H V/\gX d 6 z W l/\Moves W z b:=by
  intro W p;obtain⟨t,l1,M⟩:=p.bag;cases g
  .exact(KA d 6 t.length z t W M o f (by omega) (by omega)).mono λe l ⟨c,b,a,n,h4⟩=>⟨⟨_,c⟩,b,_,o::t,by simp;omega,a,n,h4⟩
  .by_cases hx:o∈t
   .exact(Gn d 6 t.length z t W M o f hx (by omega) (by omega)).mono λe l ⟨c,a,n⟩=>⟨⟨_,c⟩,z,_,t.erase o,aH (List.length_erase_le ..) (by omega),a,n,.inl rfl⟩
   .exact(acY d 6 t.length z t W M o f hx).mono λe l ⟨c,a⟩=>⟨⟨_,c⟩,z,_,t,by omega,M.below a,gX.of_below a,.inl rfl⟩
 have hG:∀W b,vw W d bj y E B f0 f1 b A x (m+1)->Calls prog 108 #[.pointer (some ⟨d,8,none⟩),vC o g] W λe l=>(∃r,e=.returned r)/\∃H G,m+1<=H/\H<=m+1+1/\lu l d 8 H (More A W l) G/\kF A d 8 W l:=by
  intro W b p;obtain⟨G,N⟩:=p.grp;cases g
  .exact(Ia d 8 (m+1) A G W N o f (by omega)).mono λe l ⟨c,a,n⟩=>⟨⟨_,c⟩,_,_,by omega,by omega,a,n⟩
  .rcases ac0 G o with⟨τ,c,a⟩|c
   .exact(EA d 8 (m+1) A G W N o f τ c a (by omega)).mono λe l ⟨c,a,n⟩=>⟨⟨_,c⟩,_,_,by omega,by omega,a,n⟩
   .exact(acJ d 8 (m+1) A G W N o f c).mono λe l ⟨c,a⟩=>⟨⟨_,c⟩,m+1,G,by omega,by omega,(N.below a).more_of,kF.of_below a⟩
 have Z:Hid (∀W,Below w.heap.size w W->W.heap[w.heap.size]?=some (wy o g)->Calls prog 107 #[.pointer (some ⟨d,6,none⟩),vC o g] W λe l=>(∃r,e=.returned r)/\l.heap[w.heap.size]?=some (wy o g)/\Hid (∃b,vw l d bj y E B f0 f1 b A x (m+1)/\(∀k,b=some k->z=some k∨w.heap.size<=k)/\Turned (λk=>k=d∨z=some k) w l)):=by
  intro W p s;have L:=h.below p;have Q:=h.blt;refine(hB W L).mono ?_;rintro e l ⟨T,b,H,V,hq,c,a,n⟩;refine⟨T,(a.block _ (ax.1 s).1 (by omega) (λe=>by have:=(h.blt2 e).2;omega)).trans s,b,L.bagged c hq (by omega) a n,λk e=>?_,(Turned.of_below (S:=λk=>k=d∨z=some k) p).trans (S':=λk=>k=d∨z=some k) ⟨a.os,a.tape,a.output,a.size,λk R P=>a.block k R (λe=>P (.inl e)) (λe=>P (.inr e))⟩ (λ_ _ e=>e)⟩
  rcases n with rfl|⟨j,rfl,hj⟩
  .exact .inl e
  .cases e;exact .inr (aH p.size hj)
 have H2:Hid (∀q W,Hid (∃b,vw q d bj y E B f0 f1 b A x (m+1)/\(∀k,b=some k->z=some k∨w.heap.size<=k)/\Turned (λk=>k=d∨z=some k) w q)->q.heap[w.heap.size]?=some (wy o g)->Below q.heap.size q W->Calls prog 108 #[.pointer (some ⟨d,8,none⟩),vC o g] W λe l=>(∃r,e=.returned r)/\l.heap[w.heap.size]?=some (wy o g)/\Hid (∃b K,vw l d bj y E B f0 f1 b K x (m+2)/\(∀k,b=some k->z=some k∨w.heap.size<=k)/\(∀k,K k->A k∨w.heap.size<=k)/\Turned (λk=>k=d∨z=some k∨A k) w l)):=by
  rintro q W ⟨b,c,a,n⟩ s p;have Y:=(p.block _ (ax.1 s).1).trans s;have L:=c.below p;refine(hG W b L).mono ?_;rintro e l ⟨T,H,G',q1,q2,g1,v⟩;refine⟨T,(v.block _ (ax.1 Y).1 (λe=>by have:=h.glt e;omega)).trans Y,b,_,L.grouped (g1.mono q2) (by omega) v,a,λk e=>?_,?_⟩
  .rcases e with e|e
   .exact .inl e
   .exact .inr (aH n.size (aH p.size e.1))
  .refine((n.mono (S':=λk=>k=d∨z=some k∨A k) (λk e=>e.elim .inl (λe=>.inr (.inl e)))).trans (Turned.of_below (S:=λ_=>False) p) (λ_ _ e=>e.elim)).trans (S':=A) ⟨v.os,v.tape,v.output,v.size,λk R P=>v.block k R P⟩ (λk _ e=>.inr (.inr e))
 have Q:=h.blt;clear h hB hG;simp only[vC]at Z H2⊢;go_enter func47,ntmps47;go_wp2;have B1:Hid (Below w.heap.size w (w.alloc (wy o g)).drew/\(w.alloc (wy o g)).drew.heap[w.heap.size]?=some (wy o g)):=⟨(fC _ _).drew,eZ w (wy o g)⟩;have u:=mO (eZ w (wy o g))
 go_region_held3 (λW=>W.cell? ⟨w.heap.size,0,none⟩=some (.int .i64 o.k)/\W.cell? ⟨w.heap.size,1,none⟩=some (.int .i64 o.lk)/\W.cell? ⟨w.heap.size,2,none⟩=some (.int .i64 o.lt)/\W.cell? ⟨w.heap.size,3,none⟩=some (.int .i64 o.lv)/\W.cell? ⟨w.heap.size,4,none⟩=some (.int .i64 o.rk)/\W.cell? ⟨w.heap.size,5,none⟩=some (.int .i64 o.rt)/\W.cell? ⟨w.heap.size,6,none⟩=some (.int .i64 o.rv)/\W.cell? ⟨w.heap.size,7,none⟩=some (.bool o.hl)/\W.cell? ⟨w.heap.size,8,none⟩=some (.bool o.hr)/\W.cell? ⟨w.heap.size,9,none⟩=some (.bool g)) (first|exact u|exact mO I|fail) (first
  |(go_at_call 107;refine(Z.out _ B1.out.1 B1.out.2).mono ?_;rintro e q ⟨⟨r1,rfl⟩,I,c⟩)
  |fail)
 clear u;have u:=mO I;go_wp2;have B2:Hid (Below q.heap.size q q.drew):=(iL _ _).drew
 go_region_held3 (λW=>W.cell? ⟨w.heap.size,0,none⟩=some (.int .i64 o.k)/\W.cell? ⟨w.heap.size,1,none⟩=some (.int .i64 o.lk)/\W.cell? ⟨w.heap.size,2,none⟩=some (.int .i64 o.lt)/\W.cell? ⟨w.heap.size,3,none⟩=some (.int .i64 o.lv)/\W.cell? ⟨w.heap.size,4,none⟩=some (.int .i64 o.rk)/\W.cell? ⟨w.heap.size,5,none⟩=some (.int .i64 o.rt)/\W.cell? ⟨w.heap.size,6,none⟩=some (.int .i64 o.rv)/\W.cell? ⟨w.heap.size,7,none⟩=some (.bool o.hl)/\W.cell? ⟨w.heap.size,8,none⟩=some (.bool o.hr)/\W.cell? ⟨w.heap.size,9,none⟩=some (.bool g)) (first|exact u|exact U|fail) (first
  |(go_at_call 108;refine(H2.out q _ c I B2.out).mono ?_;rintro e w2 ⟨⟨r2,rfl⟩,X,a⟩;have U:=mO X)
  |fail)
 go_wp2
 go_end0
 exact⟨rfl,a.out⟩
structure X4(w:World)(S:Nat->Prop)(d bj y:Nat)(E B:Value)(f0 f1:Int)(x:J)(m:Nat)(C:List Ch)(F:Value)(i:Nat)(W:World):Prop where
 ex:∃z A,vw W d bj y E B f0 f1 z A x (m+2*i)/\(∀k,aT bj y E B z A k->S k∨w.heap.size<=k)/\(∀k,F.ownBlock=some k->¬aT bj y E B z A k)
 row:W.ownsRow w.heap.size 95 10 F C.length (C.flatMap aQ)
 turn:Turned S w W
theorem X4.apply(h:X4 w S d bj y E B f0 f1 x m C F i W){c:Ch}(s:C[i]?=some c)(o:∀c∈C,c.x.wf)(hL:m<=500000)(hC:C.length<=500000)(j:Below W.heap.size W W'):
  Calls prog 47 #[.pointer (some ⟨d,0,none⟩),vC c.x c.g] W' λe l=>e=.returned (.tuple #[])/\Hid (X4 w S d bj y E B f0 f1 x m C F (i+1) l):=by
 obtain⟨z,A,p,f,b⟩:=h.ex;have v:=p.below j;have hi:i<C.length:=(bP.1 s).1;refine(aek d bj y E B f0 f1 z A x (m+2*i) c.x c.g W' v (o c (cZ s)) (by omega)).mono ?_;rintro e l ⟨rfl,u,L,I,r,t,q⟩;have hws:=h.turn.size;have hbs:=j.size;have n:W'.ownsRow w.heap.size 95 10 F C.length (C.flatMap aQ):=aL h.row j;refine⟨rfl,⟨u,L,?_,λk e=>?_,λk e=>?_⟩,?_,?_⟩
 .exact I
 .rcases e with e|e|e
  .exact f k (.inl e)
  .rcases r k e with e|e
   .exact f k (.inr (.inl e))
   .exact .inr (by omega)
  .rcases t k e with e|e
   .exact f k (.inr (.inr e))
   .exact .inr (by omega)
 .have hlt:=(n.lt k e).2;rintro(a|a|a)
  .exact b k e (.inl a)
  .rcases r k a with a|a
   .exact b k e (.inr (.inl a))
   .omega
  .rcases t k a with a|a
   .exact b k e (.inr (.inr a))
   .omega
 .refine ag n (λk e=>q.block k (n.lt k e).2 ?_);rintro(a|a|a)
  .exact b k e (.inr (.inr (by rw[a];exact p.inS)))
  .exact b k e (.inr (.inl a))
  .exact b k e (.inr (.inr a))
 .refine(h.turn.trans (Turned.of_below (S:=λ_=>False) j) (λ_ _ e=>e.elim)).trans q (λk hk e=>?_)
  have K:aT bj y E B z A k:=by
   rcases e with e|e|e
   .exact .inr (.inr (by rw[e];exact p.inS))
   .exact .inr (.inl e)
   .exact .inr (.inr e)
  rcases f k K with e|e
  .exact e
  .omega
theorem X4.below(h:X4 w S d bj y E B f0 f1 x m C F i W)(a:Below W.heap.size W W'):X4 w S d bj y E B f0 f1 x m C F i W':=by
 obtain⟨z,A,c,b,f⟩:=h.ex;exact⟨⟨z,A,c.below a,b,f⟩,aL h.row a,h.turn.trans (Turned.of_below (S:=λ_=>False) a) (λ_ _ e=>e.elim)⟩
theorem aeG(d bj y:Nat)(E B:Value)(f0 f1:Int)(z:Option Nat)(A:Nat->Prop)(x u:J)(m:Nat)(C:List Ch)(k t v:Int)(s L K:Int)(hs:s=0/\L=aZ f0/\K=f1∨s=1/\L=f0/\K=aZ f1)(w:World)(h:vw w d bj y E B f0 f1 z A x m)
  (hx:u.lo=x.lo/\u.hi=x.hi/\u.mode=x.mode)
  (hJ:∀W,ai W 0 bj y E B x->Calls prog 45 #[.pointer (some ⟨bj,0,none⟩),.int .i64 s,.agg #[.int .i64 k,.int .i64 t,.int .i64 v]] W λe l=>∃F j a,e=.returned (.tuple #[F,.nilIface])/\ai l 0 bj y j a u/\l.ownsRow W.heap.size 95 10 F C.length (C.flatMap aQ)/\Turned (eP bj y E B) W l/\(∀k,eP bj y j a k->eP bj y E B k∨W.heap.size<=k)/\(∀k,F.ownBlock=some k->¬eP bj y j a k))
  (X:∀c∈C,c.x.wf) (hL:m<=500000) (hC:C.length<=500000):
  Calls prog 11 #[.pointer (some ⟨d,0,none⟩),.int .i64 s,.agg #[.int .i64 k,.int .i64 t,.int .i64 v]] w λe l=>∃F j a,e=.returned (.tuple #[F,.nilIface])/\X4 w (aT bj y E B z A) d bj y j a L K u m C F C.length l:=by
 have HJ:∀(o:Nat) (f f':Int),(∀W j a u,vw W d bj y j a f0 f1 z A u m->W.cell? ⟨d,o,none⟩=some (.int .i64 f)/\W.frozen? ⟨d,o,none⟩=false/\vw (W.setCell ⟨d,o,none⟩ (.int .i64 f')) d bj y j a L K z A u m)->(∀W,Below w.heap.size w W->W.heap[w.heap.size]?=some (bu k t v)->Calls prog 45 #[.pointer (some ⟨bj,0,none⟩),.int .i64 s,.agg #[.int .i64 k,.int .i64 t,.int .i64 v]] W λe l=>∃F,e=.returned (.tuple #[F,.nilIface])/\(l.cell? ⟨d,o,none⟩=some (.int .i64 f)/\l.frozen? ⟨d,o,none⟩=false/\d<l.heap.size)/\(l.cell? ⟨d,3,none⟩=some (.pointer (some ⟨bj,0,none⟩))/\l.cell? ⟨w.heap.size,0,none⟩=some (.int .i64 k)/\l.cell? ⟨w.heap.size,1,none⟩=some (.int .i64 t)/\l.cell? ⟨w.heap.size,2,none⟩=some (.int .i64 v))/\Hid (∃j a,X4 w (aT bj y E B z A) d bj y j a L K u m C F 0 (l.setCell ⟨d,o,none⟩ (.int .i64 f')))):=by
  intro o f f' n W hW Q;have R:=h.below hW;refine(hJ W R.join).mono ?_;rintro e l ⟨F,j,a,rfl,h1,r,h3,h4,h5⟩;have q:=R.joined h1 hx h3 h4;have N:=q.cells;have hws:=hW.size
  have hs:∀k,k≠d->(l.setCell ⟨d,o,none⟩ (.int .i64 f')).heap[k]?=l.heap[k]? :=λk e=>iJ _ _ _ _ e
  have P:=R.blt;refine⟨F,rfl,⟨(n _ _ _ _ q).1,(n _ _ _ _ q).2.1,q.blt⟩,⟨N.2.2.2.1,bQ ((h3.block _ (ax.1 Q).1 (λe=>by have:=h.join.foot_lt e;omega)).trans Q)⟩,j,a,⟨z,A,?_,λk e=>?_,λk e=>?_⟩,?_,?_⟩
  .exact(n _ _ _ _ q).2.2
  .rcases e with e|e
   .rcases h4 k e with e|e
    .exact .inl (.inl e)
    .exact .inr (by omega)
   .exact .inl (.inr e)
  .have hl9:=(r.lt k e).1;rintro(Y|Y|Y)
   .exact h5 k e Y
   .have:=(R.blt2 Y).2;omega
   .have:=R.glt Y;omega
  .refine ag (r.mono hws) (λk e=>hs k ?_);have:=(r.lt k e).1;omega
  .refine(((Turned.of_below (S:=aT bj y E B z A) hW).trans h3 (λ_ _ e=>.inl e)).trans (bC (b:=d)) (λk _ e=>.inr (.inr (by rw[e];exact h.inS))))
 have HO:=hid X;have U:=h.cells;have P:=h.blt;have r0:=h.r0;have r1:=h.r1;clear h hJ X hx
 rcases hs with⟨rfl,e0,e1⟩|⟨rfl,e0,e1⟩
 case' inl=>(have M:=hid (HJ 4 f0 (aZ f0) λW _ _ _ r=>⟨r.cells.2.2.2.2.1,r.cells.2.2.2.2.2.2.1,by rw[e0,e1];exact r.setf 4 _ _ _ (.inl ⟨rfl,rfl,rfl⟩) (wS r0)⟩);have HM:=hid (rJ r0);have hf:=r0;have Pe:=trivial)
 case' inr=>(have M:=hid (HJ 5 f1 (aZ f1) λW _ _ _ r=>⟨r.cells.2.2.2.2.2.1,r.cells.2.2.2.2.2.2.2,by rw[e0,e1];exact r.setf 5 _ _ _ (.inr ⟨rfl,rfl,rfl⟩) (wS r1)⟩);have HM:=hid (rJ r1);have hf:=r1)
 all_goals
  clear HJ r0 r1 e0 e1;go_enter func11,ntmps11;go_wp2;have B1:Hid (Below w.heap.size w (w.alloc (bu k t v)).drew/\(w.alloc (bu k t v)).drew.heap[w.heap.size]?=some (bu k t v)):=⟨(fC _ _).drew,eZ w (bu k t v)⟩;have Z:(w.alloc (bu k t v)).cell? ⟨d,3,none⟩=some (.pointer (some ⟨bj,0,none⟩))/\(w.alloc (bu k t v)).cell? ⟨w.heap.size,0,none⟩=some (.int .i64 k)/\(w.alloc (bu k t v)).cell? ⟨w.heap.size,1,none⟩=some (.int .i64 t)/\(w.alloc (bu k t v)).cell? ⟨w.heap.size,2,none⟩=some (.int .i64 v):=⟨((fC w (bu k t v)).cell (p:=⟨d,3,none⟩) P).trans U.2.2.2.1,bQ (eZ w (bu k t v))⟩;clear U
  go_region_held3 (λW=>W.cell? ⟨d,3,none⟩=some (.pointer (some ⟨bj,0,none⟩))/\W.cell? ⟨w.heap.size,0,none⟩=some (.int .i64 k)/\W.cell? ⟨w.heap.size,1,none⟩=some (.int .i64 t)/\W.cell? ⟨w.heap.size,2,none⟩=some (.int .i64 v)) (first|exact Z|exact T|fail) (first
   |(go_at_call 45;refine(M.out _ B1.out.1 B1.out.2).mono ?_;rintro e w1 ⟨F,rfl,hc4,T,h1⟩)
   |fail)
  clear Z T B1 M
  go_wp2_with (first
   |(go_at_call 46;refine(Ea _).mono ?_;rintro e l ⟨rfl,hw⟩;have hw:=hw.symm;subst hw)
   |fail)
  go_region
  rw[HM.out];obtain⟨j,a,K⟩:=h1.out;have V:=hid (K.below ((iL _ _).drew));revert V
  first|(have _:=Pe;generalize(w1.setCell ⟨d,4,none⟩ (.int .i64 (aZ f0))).drew=w2)|generalize(w1.setCell ⟨d,5,none⟩ (.int .i64 (aZ f1))).drew=w2
  intro V;clear K h1 hc4;obtain⟨Xt,c9,e9⟩:=lC V.out.row;subst e9;go_wp2
  go_loopg [51] C.length (λgg Zt wr=>∃i:Nat,i<=C.length/\gg=C.length -i/\Zt=.int .i64 i/\Hid (X4 w (aT bj y E B z A) d bj y j a L K u m C (.slice Xt C.length c9) i wr))
  case atStart=>exact⟨0,aW _,rfl,rfl,V⟩
  case round=>
   obtain⟨i,hile,iU,rfl,I⟩:=hrel;have HG:=hid iU;clear iU V
   by_cases hlt2:i<C.length
   .obtain⟨c,N⟩:∃c,C[i]?=some c:=⟨_,aO hlt2⟩;obtain⟨Xu,ck9,U1⟩:=gy I.out.row (show 0<C.length by omega);cases U1;have hcc:=Eb I.out.row i c N;have hgl:Xu<wr.heap.size:=(I.out.row.lt Xu rfl).2
    have j1:(0:Int)<=(i:Int):=by omega
    have j2:(i:Int)<(C.length:Int):=by omega
    have j3:(C.length:Int)<=1000000:=by omega
    have HA:=I.out.apply N HO.out hL hC (fC wr (wy c.x c.g));have HB:Hid (Calls prog 47 #[.pointer (some ⟨d,0,none⟩),vC c.x c.g] (wr.alloc (wy c.x c.g)) λe l=>e=.returned (.tuple #[])/\Hid (X4 w (aT bj y E B z A) d bj y j a L K u m C (.slice (some ⟨Xu,0,none⟩) C.length c9) (i+1) l)):=HA;simp only[vC]at HB;clear HA N I
    go_wp2_with (first
     |(go_at_call 47;refine HB.out.mono ?_;rintro e w3 ⟨rfl,I2⟩)
     |fail)
    go_roundg (C.length -(i+1))
    all_goals first
     |(have:=HG.out;omega)
     |exact⟨i+1,by omega,rfl,by first|rfl|(congr 1;omega)|go_num,I2⟩
   .have j2:¬((i:Int)<(C.length:Int)):=by omega
    have hie:i=C.length:=by omega
    go_wp2;have hI:=I.out;rw[hie]at hI;exact ja (v:= .tuple #[.slice Xt C.length c9,.nilIface]) (by simp[results,Tryz.results11,go_sem]) rfl ⟨_,rfl,j,a,hI⟩
theorem acK(d bj y:Nat)(E B:Value)(f0 f1:Int)(z:Option Nat)(A:Nat->Prop)(x f:J)(m:Nat)(k t v:Int)(s L Q:Int)(hs:s=0/\L=aZ f0/\Q=f1∨s=1/\L=f0/\Q=aZ f1)(w:World)(g:w.cell? ⟨2,0,none⟩=some iD)(h:vw w d bj y E B f0 f1 z A x m)
  (hx:f.lo=x.lo/\f.hi=x.hi/\f.mode=x.mode)
  (hJ:∀W,ai W 0 bj y E B x->Calls prog 45 #[.pointer (some ⟨bj,0,none⟩),.int .i64 s,.agg #[.int .i64 k,.int .i64 t,.int .i64 v]] W λe l=>e=.returned (.tuple #[.slice none 0 0,.iface 24 (.int .i64 10)])/\ai l 0 bj y E B f/\Turned (λj=>j=bj) W l):
  Calls prog 11 #[.pointer (some ⟨d,0,none⟩),.int .i64 s,.agg #[.int .i64 k,.int .i64 t,.int .i64 v]] w λe l=>e=.returned (.tuple #[.slice none 0 0,.iface 24 (.int .i64 10)])/\vw l d bj y E B L Q z A f m/\Turned (aT bj y E B z A) w l:=by
 have hbj:bj≠2:=JO g h.join.cells.1
 have HJ:Hid (∀W,Below w.heap.size w W->W.heap[w.heap.size]?=some (bu k t v)->Calls prog 45 #[.pointer (some ⟨bj,0,none⟩),.int .i64 s,.agg #[.int .i64 k,.int .i64 t,.int .i64 v]] W λe l=>e=.returned (.tuple #[.slice none 0 0,.iface 24 (.int .i64 10)])/\(l.cell? ⟨d,3,none⟩=some (.pointer (some ⟨bj,0,none⟩))/\l.cell? ⟨w.heap.size,0,none⟩=some (.int .i64 k)/\l.cell? ⟨w.heap.size,1,none⟩=some (.int .i64 t)/\l.cell? ⟨w.heap.size,2,none⟩=some (.int .i64 v))/\Hid (l.cell? ⟨2,0,none⟩=some iD/\vw l d bj y E B f0 f1 z A f m/\Turned (aT bj y E B z A) w l)):=by
  intro W Z M;have hE:=h.below Z;refine(hJ W hE.join).mono ?_;rintro e l ⟨rfl,r,h3⟩;have U:Turned (eP bj y E B) W l:=h3.mono (λk e=>.inl e);have V:=hE.joined r hx U (λk e=>.inl e);have hz:2<w.heap.size:=World.block_lt_of_cell? _ _ g;refine⟨rfl,⟨V.cells.2.2.2.1,bQ ((h3.block _ (ax.1 M).1 (λe=>by have:=h.join.lt;omega)).trans M)⟩,?_,V,(Turned.of_below (S:=aT bj y E B z A) Z).trans U (λ_ _ e=>.inl e)⟩;exact(World.cell?_of_block (w:=w) (a:=⟨2,0,none⟩) ((h3.block 2 (aR hz Z.size) (λe=>hbj e.symm)).trans (Z.block 2 hz))).trans g
 have HZ:∀(o:Nat) (T:Int),(∀W,vw W d bj y E B f0 f1 z A f m->vw (W.setCell ⟨d,o,none⟩ (.int .i64 T)) d bj y E B L Q z A f m)->∀c,vw c d bj y E B f0 f1 z A f m->Turned (aT bj y E B z A) w c->vw (c.setCell ⟨d,o,none⟩ (.int .i64 T)).drew d bj y E B L Q z A f m/\Turned (aT bj y E B z A) w (c.setCell ⟨d,o,none⟩ (.int .i64 T)).drew:=by
  intro o T hf c I ht;refine⟨(hf c I).below ((iL _ _).drew),(ht.trans (bC (b:=d) (o:=o) (u:= .int .i64 T)) (λk _ e=>.inr (.inr (by rw[e];exact h.inS)))).trans (Turned.of_below (S:=λ_=>False) ((iL _ _).drew)) (λ_ _ e=>e.elim)⟩
 have r0:=h.r0;have r1:=h.r1;have K:=h.cells;have hlt:=h.blt;have hq:=ow 10;clear h hJ hx g
 rcases hs with⟨rfl,Y,e1⟩|⟨rfl,Y,e1⟩
 case' inl=>(have n:=hid (HZ 4 (aZ f0) λW I=>by rw[Y,e1];exact I.setf 4 _ _ _ (.inl ⟨rfl,rfl,rfl⟩) (wS r0));have HM:=hid (rJ r0);have Pe:=trivial)
 case' inr=>(have n:=hid (HZ 5 (aZ f1) λW I=>by rw[Y,e1];exact I.setf 5 _ _ _ (.inr ⟨rfl,rfl,rfl⟩) (wS r1));have HM:=hid (rJ r1))
 all_goals
  clear HZ r0 r1 Y e1;go_enter func11,ntmps11;go_wp2;have B1:Hid (Below w.heap.size w (w.alloc (bu k t v)).drew/\(w.alloc (bu k t v)).drew.heap[w.heap.size]?=some (bu k t v)):=⟨(fC _ _).drew,eZ w (bu k t v)⟩;have P:(w.alloc (bu k t v)).cell? ⟨d,3,none⟩=some (.pointer (some ⟨bj,0,none⟩))/\(w.alloc (bu k t v)).cell? ⟨w.heap.size,0,none⟩=some (.int .i64 k)/\(w.alloc (bu k t v)).cell? ⟨w.heap.size,1,none⟩=some (.int .i64 t)/\(w.alloc (bu k t v)).cell? ⟨w.heap.size,2,none⟩=some (.int .i64 v):=⟨((fC w (bu k t v)).cell (p:=⟨d,3,none⟩) hlt).trans K.2.2.2.1,bQ (eZ w (bu k t v))⟩;clear K
  go_region_held3 (λW=>W.cell? ⟨d,3,none⟩=some (.pointer (some ⟨bj,0,none⟩))/\W.cell? ⟨w.heap.size,0,none⟩=some (.int .i64 k)/\W.cell? ⟨w.heap.size,1,none⟩=some (.int .i64 t)/\W.cell? ⟨w.heap.size,2,none⟩=some (.int .i64 v)) (first|exact P|exact R|fail) (first
   |(go_at_call 45;refine(HJ.out _ B1.out.1 B1.out.2).mono ?_;rintro e w1 ⟨rfl,R,r⟩)
   |fail)
  clear P R B1 HJ
  go_wp2_with (first
   |(go_at_call 46;refine(lX _ _ r.out.1).mono ?_;rintro e c ⟨rfl,q⟩;have N:Hid (vw c d bj y E B f0 f1 z A f m/\Turned (aT bj y E B z A) w c):=⟨r.out.2.1.below q,r.out.2.2.trans (Turned.of_below (S:=λ_=>False) q) (λ_ _ e=>e.elim)⟩;clear q)
   |fail)
  have X:=N.out.1.cells;have hc4:=And.intro (And.intro X.2.2.2.2.1 X.2.2.2.2.2.2.1) (And.intro (And.intro X.2.2.2.2.2.1 X.2.2.2.2.2.2.2) N.out.1.blt);clear X
  go_region
  rw[HM.out];have Z2:=hid (n.out c N.out.1 N.out.2);clear n N r;revert Z2
  first|(have _:=Pe;generalize(c.setCell ⟨d,4,none⟩ (.int .i64 (aZ f0))).drew=w3)|generalize(c.setCell ⟨d,5,none⟩ (.int .i64 (aZ f1))).drew=w3
  intro Z2;go_wp2;exact ja (v:= .tuple #[.slice none 0 0,.iface 24 (.int .i64 10)]) (by simp[results,Tryz.results11,go_sem]) rfl ⟨rfl,Z2.out⟩
theorem ac1(d bj y:Nat)(E B:Value)(f0 f1:Int)(z:Option Nat)(A:Nat->Prop)(x:J)(m:Nat)(s c k t v:Int)(hq0:¬c=0)(hq1:¬c=10)(w:World)(a:w.cell? ⟨2,0,none⟩=some iD)(h:vw w d bj y E B f0 f1 z A x m)
  (L:∀W,ai W 0 bj y E B x->Calls prog 45 #[.pointer (some ⟨bj,0,none⟩),.int .i64 s,.agg #[.int .i64 k,.int .i64 t,.int .i64 v]] W λe l=>e=.returned (.tuple #[.slice none 0 0,.iface 24 (.int .i64 c)])/\Below W.heap.size W l):
  Calls prog 11 #[.pointer (some ⟨d,0,none⟩),.int .i64 s,.agg #[.int .i64 k,.int .i64 t,.int .i64 v]] w λe l=>e=.returned (.tuple #[.slice none 0 0,.iface 24 (.int .i64 c)])/\Below w.heap.size w l:=by
 have N:Hid (∀W,Below w.heap.size w W->W.heap[w.heap.size]?=some (bu k t v)->Calls prog 45 #[.pointer (some ⟨bj,0,none⟩),.int .i64 s,.agg #[.int .i64 k,.int .i64 t,.int .i64 v]] W λe l=>e=.returned (.tuple #[.slice none 0 0,.iface 24 (.int .i64 c)])/\(l.cell? ⟨d,3,none⟩=some (.pointer (some ⟨bj,0,none⟩))/\l.cell? ⟨w.heap.size,0,none⟩=some (.int .i64 k)/\l.cell? ⟨w.heap.size,1,none⟩=some (.int .i64 t)/\l.cell? ⟨w.heap.size,2,none⟩=some (.int .i64 v))/\Hid (l.cell? ⟨2,0,none⟩=some iD/\Below w.heap.size w l)):=by
  intro W r f;have R:=h.below r;refine(L W R.join).mono ?_;rintro e l ⟨rfl,M⟩;have K:Below w.heap.size w l:=r.trans (M.mono r.size);have I:=h.below K;have Q:2<w.heap.size:=World.block_lt_of_cell? _ _ a;exact⟨rfl,⟨I.cells.2.2.2.1,bQ ((M.block _ (ax.1 f).1).trans f)⟩,(K.cell (p:=⟨2,0,none⟩) Q).trans a,K⟩
 have b:=h.cells;have q:=h.blt;have hq:=ow c;clear h L a;go_enter func11,ntmps11;go_wp2;have o:Hid (Below w.heap.size w (w.alloc (bu k t v)).drew/\(w.alloc (bu k t v)).drew.heap[w.heap.size]?=some (bu k t v)):=⟨(fC _ _).drew,eZ w (bu k t v)⟩;have n:(w.alloc (bu k t v)).cell? ⟨d,3,none⟩=some (.pointer (some ⟨bj,0,none⟩))/\(w.alloc (bu k t v)).cell? ⟨w.heap.size,0,none⟩=some (.int .i64 k)/\(w.alloc (bu k t v)).cell? ⟨w.heap.size,1,none⟩=some (.int .i64 t)/\(w.alloc (bu k t v)).cell? ⟨w.heap.size,2,none⟩=some (.int .i64 v):=⟨((fC w (bu k t v)).cell (p:=⟨d,3,none⟩) q).trans b.2.2.2.1,bQ (eZ w (bu k t v))⟩;clear b
 go_region_held3 (λW=>W.cell? ⟨d,3,none⟩=some (.pointer (some ⟨bj,0,none⟩))/\W.cell? ⟨w.heap.size,0,none⟩=some (.int .i64 k)/\W.cell? ⟨w.heap.size,1,none⟩=some (.int .i64 t)/\W.cell? ⟨w.heap.size,2,none⟩=some (.int .i64 v)) (first|exact n|exact g|fail) (first
  |(go_at_call 45;refine(N.out _ o.out.1 o.out.2).mono ?_;rintro e w1 ⟨rfl,g,u⟩)
  |fail)
 clear n g o N
 go_wp2_with (first
  |(go_at_call 46;refine(lX _ _ u.out.1).mono ?_;rintro e T ⟨rfl,j⟩;have P:Hid (Below w.heap.size w T):=u.out.2.trans (j.mono u.out.2.size);clear j)
  |fail)
 exact ja (v:= .tuple #[.slice none 0 0,.iface 24 (.int .i64 c)]) (by simp[results,Tryz.results11,go_sem]) rfl ⟨rfl,P.out⟩
end
end Go.Proofs.YthfpipieboophaaGreatDoor
