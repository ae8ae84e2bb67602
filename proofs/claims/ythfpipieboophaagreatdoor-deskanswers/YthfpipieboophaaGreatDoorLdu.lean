import Derived.Test.YthfpipieboophaaGreatDoorZVwa
namespace Go.Proofs.YthfpipieboophaaGreatDoor
set_option maxRecDepth 100000
set_option maxHeartbeats 40000000
open Go.Proofs.Tryz Go.RowKit Go.Sort
theorem Pj(be g off c:Nat)(a mk:Nat->Int)(St:Nat->World->Prop)(w:World)(y:St 0 w)
  (q:∀i W,St i W->g<W.heap.size) (hd:∀i W x,St i W->Below W.heap.size W x->St i x)
  (n:∀i j W,St i W->j<2->W.cell? ⟨g,off+j,none⟩=some (.int .i64 (a j)))
  (o:∀i W,i<2->St i W->Calls prog 20 #[.pointer (some ⟨be,0,none⟩),.int .i64 i] W λe b=>e=.returned (.int .i64 (mk i))/\b=W)
  (r:∀i W,i<2->a i≠mk i->St i W->Calls prog 15 #[.pointer (some ⟨be,0,none⟩),.int .i64 i,.int .i64 (a i)] W λe b=>e=.returned .nilIface/\St (i+1) b)
  (u:∀i W,i<2->a i=mk i->St i W->St (i+1) W):
  Calls prog 163 #[.pointer (some ⟨be,0,none⟩),.slice (some ⟨g,off,none⟩) 2 c] w λe b=>e=.returned (.bool true)/\St 2 b:=by
 have F:=hid y;clear y;go_enter func163,ntmps163;go_wp2
 go_loopg [6] 2 (λK L wr=>∃i:Nat,i<=2/\K=2 -i/\L=.int .i64 i/\Hid (St i wr))
 case atStart=>exact⟨0,gy _,rfl,rfl,F⟩
 case round=>
  obtain⟨i,hile,A,rfl,I⟩:=hrel;have z:=hid A;clear A F
  by_cases hlt2:i<2
  .have j1:(0:Int)<=(i:Int):=by omega
   have H:(i:Int)<2:=by omega
   by_cases he:a i=mk i
   .have E:Hid (∀W,Below wr.heap.size wr W->St (i+1) W):=λW Q=>u i W hlt2 he (hd i wr W I.out Q)
    have k:=λp os=>n i i _ (hd i wr _ I.out (below_regrown wr p os)) hlt2
    have m:=λp os=>q i _ (hd i wr _ I.out (below_regrown wr p os))
    have d:Hid (∀p os,Calls prog 20 #[.pointer (some ⟨be,0,none⟩),.int .i64 i] (Go.Sort.grow (redrawn wr p) os) λe b=>e=.returned (.int .i64 (mk i))/\Below (Go.Sort.grow (redrawn wr p) os).heap.size (Go.Sort.grow (redrawn wr p) os) b):=λp os=>(o i _ hlt2 (hd i wr _ I.out (below_regrown wr p os))).mono λe b ⟨G,N⟩=>⟨G,by rw[N];exact zI _ _⟩
    have R:(a i !=mk i)=false:=by rw[he];simp
    clear r u o he hd q n I;go_wp2;refine wp_region_quiet_below (by kernel_rfl) (by kernel_rfl) ?_
    repeat (quiet_step (first|(go_at_call 20;exact Calls.regrown_of (d.out _ _))|fail))
    refine wpQuiet_nil ?_;intro _ t;obtain⟨⟨dq,f⟩,l⟩:=t;subst l;have v:Hid (St (i+1) (Go.Sort.grow (redrawn wr dq) f)):=E.out _ (below_regrown wr dq f);clear k m d E
    dsimp only
    revert v;generalize Go.Sort.grow (redrawn wr dq) f=w6;intro v;go_wp2
    go_roundg (2 -(i+1))
    all_goals first
     |(have:=z.out;omega)
     |exact⟨i+1,by omega,rfl,by first|rfl|(congr 1;omega)|go_num,v⟩
   .have m:=q i wr I.out;have k:=n i i wr I.out hlt2;have B:Hid (St i wr.drew):=hd i wr wr.drew I.out ((zI _ _).drew);have d:Hid (Calls prog 20 #[.pointer (some ⟨be,0,none⟩),.int .i64 i] wr.drew λe b=>e=.returned (.int .i64 (mk i))/\b=wr.drew):=o i wr.drew hlt2 B.out
    have s:Hid (Calls prog 15 #[.pointer (some ⟨be,0,none⟩),.int .i64 i,.int .i64 (a i)] wr.drew λe b=>e=.returned .nilIface/\b.cell? ⟨g,off+i,none⟩=some (.int .i64 (a i))/\Hid (St (i+1) b)):=by
     refine(r i wr.drew hlt2 he B.out).mono ?_;rintro e b ⟨rfl,h⟩;exact⟨rfl,n _ i b h hlt2,h⟩
    have R:(a i !=mk i)=true:=by simpa using he
    clear r u o he hd q n I;go_wp2
    go_region_held3 (λW=>W.cell? ⟨g,off+i,none⟩=some (.int .i64 (a i))) (first|(go_keep;done)|fail) (first
     |(go_at_call 15;refine s.out.mono ?_;rintro e w3 ⟨rfl,hc3,P⟩)
     |(go_at_call 20;refine d.out.mono ?_;rintro e w2 ⟨rfl,M⟩;subst M)
     |fail)
    go_wp2
    go_roundg (2 -(i+1))
    all_goals first
     |(have:=z.out;omega)
     |exact⟨i+1,by omega,rfl,by first|rfl|(congr 1;omega)|go_num,P⟩
  .have H:¬((i:Int)<2):=by omega
   have C:=I.out;rw[show i=2 by omega]at C;clear I;go_wp2;go_ret;exact⟨rfl,C⟩
end Go.Proofs.YthfpipieboophaaGreatDoor
