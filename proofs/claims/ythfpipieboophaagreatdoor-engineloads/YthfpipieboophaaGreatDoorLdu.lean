import Derived.Test.YthfpipieboophaaGreatDoorZVwa
namespace Go.Proofs.YthfpipieboophaaGreatDoor
set_option maxRecDepth 100000
set_option maxHeartbeats 40000000
open Go.Proofs.Tryz Go.RowKit Go.Sort
theorem Pj(be g off c:Nat)(a mk:Nat->Int)(St:Nat->World->Prop)(w:World)(z:St 0 w)
  (q:∀i W,St i W->g<W.heap.size) (hd:∀i W A,St i W->Below W.heap.size W A->St i A)
  (n:∀i j W,St i W->j<2->W.cell? ⟨g,off+j,none⟩=some (.int .i64 (a j)))
  (o:∀i W,i<2->St i W->Calls prog 20 #[.pointer (some ⟨be,0,none⟩),.int .i64 i] W λe b=>e=.returned (.int .i64 (mk i))/\b=W)
  (u:∀i W,i<2->a i≠mk i->St i W->Calls prog 15 #[.pointer (some ⟨be,0,none⟩),.int .i64 i,.int .i64 (a i)] W λe b=>e=.returned .nilIface/\St (i+1) b)
  (v:∀i W,i<2->a i=mk i->St i W->St (i+1) W):
  Calls prog 163 #[.pointer (some ⟨be,0,none⟩),.slice (some ⟨g,off,none⟩) 2 c] w λe b=>e=.returned (.bool true)/\St 2 b:=by
 have y:=hid z;clear z;go_enter func163,ntmps163;go_wp2
 go_loopg [6] 2 (λQ G wr=>∃i:Nat,i<=2/\Q=2 -i/\G=.int .i64 i/\Hid (St i wr))
 case atStart=>exact⟨0,aW _,rfl,rfl,y⟩
 case round=>
  obtain⟨i,hile,x,rfl,I⟩:=hrel;have B:=hid x;clear x y
  by_cases hlt2:i<2
  .have j1:(0:Int)<=(i:Int):=by omega
   have N:(i:Int)<2:=by omega
   by_cases he:a i=mk i
   .have F:Hid (∀W,Below wr.heap.size wr W->St (i+1) W):=λW L=>v i W hlt2 he (hd i wr W I.out L)
    have k:=λp os=>n i i _ (hd i wr _ I.out (below_regrown wr p os)) hlt2
    have m:=λp os=>q i _ (hd i wr _ I.out (below_regrown wr p os))
    have d:Hid (∀p os,Calls prog 20 #[.pointer (some ⟨be,0,none⟩),.int .i64 i] (Go.Sort.grow (redrawn wr p) os) λe b=>e=.returned (.int .i64 (mk i))/\Below (Go.Sort.grow (redrawn wr p) os).heap.size (Go.Sort.grow (redrawn wr p) os) b):=λp os=>(o i _ hlt2 (hd i wr _ I.out (below_regrown wr p os))).mono λe b ⟨M,H⟩=>⟨M,by rw[H];exact iL _ _⟩
    have K:(a i !=mk i)=false:=by rw[he];simp
    clear u v o he hd q n I;go_wp2;refine wp_region_quiet_below (by kernel_rfl) (by kernel_rfl) ?_
    repeat (quiet_step (first|(go_at_call 20;exact Calls.regrown_of (d.out _ _))|fail))
    refine wpQuiet_nil ?_;intro _ r;obtain⟨⟨dq,f⟩,l⟩:=r;subst l;have s:Hid (St (i+1) (Go.Sort.grow (redrawn wr dq) f)):=F.out _ (below_regrown wr dq f);clear k m d F
    dsimp only
    revert s;generalize Go.Sort.grow (redrawn wr dq) f=w6;intro s;go_wp2
    go_roundg (2 -(i+1))
    all_goals first
     |(have:=B.out;omega)
     |exact⟨i+1,by omega,rfl,by first|rfl|(congr 1;omega)|go_num,s⟩
   .have m:=q i wr I.out;have k:=n i i wr I.out hlt2;have E:Hid (St i wr.drew):=hd i wr wr.drew I.out ((iL _ _).drew);have d:Hid (Calls prog 20 #[.pointer (some ⟨be,0,none⟩),.int .i64 i] wr.drew λe b=>e=.returned (.int .i64 (mk i))/\b=wr.drew):=o i wr.drew hlt2 E.out
    have t:Hid (Calls prog 15 #[.pointer (some ⟨be,0,none⟩),.int .i64 i,.int .i64 (a i)] wr.drew λe b=>e=.returned .nilIface/\b.cell? ⟨g,off+i,none⟩=some (.int .i64 (a i))/\Hid (St (i+1) b)):=by
     refine(u i wr.drew hlt2 he E.out).mono ?_;rintro e b ⟨rfl,h⟩;exact⟨rfl,n _ i b h hlt2,h⟩
    have K:(a i !=mk i)=true:=by simpa using he
    clear u v o he hd q n I;go_wp2
    go_region_held3 (λW=>W.cell? ⟨g,off+i,none⟩=some (.int .i64 (a i))) (first|(go_keep;done)|fail) (first
     |(go_at_call 15;refine t.out.mono ?_;rintro e w3 ⟨rfl,hc3,R⟩)
     |(go_at_call 20;refine d.out.mono ?_;rintro e w2 ⟨rfl,P⟩;subst P)
     |fail)
    go_wp2
    go_roundg (2 -(i+1))
    all_goals first
     |(have:=B.out;omega)
     |exact⟨i+1,by omega,rfl,by first|rfl|(congr 1;omega)|go_num,R⟩
  .have N:¬((i:Int)<2):=by omega
   have C:=I.out;rw[show i=2 by omega]at C;clear I;go_wp2;go_ret;exact⟨rfl,C⟩
end Go.Proofs.YthfpipieboophaaGreatDoor
