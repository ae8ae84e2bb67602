import Derived.Test.YthfpipieboophaaGreatDoorZaj
namespace Go.Proofs.YthfpipieboophaaGreatDoor
set_option maxRecDepth 100000
set_option maxHeartbeats 40000000
open Go.Proofs.Tryz Go.RowKit Go.Sort
theorem Pj (be g off c:Nat) (a mk:Nat->Int) (St:Nat->World->Prop) (w:World) (h0:St 0 w)
  (hg:∀i W,St i W->g < W.heap.size) (hd:∀i W W',St i W->Below W.heap.size W W'->St i W')
  (hc:∀i j W,St i W->j < 2->W.cell? ⟨g,off+j,none⟩=some (.int .i64 (a j)))
  (HM:∀i W,i < 2->St i W->Calls prog 20 #[.pointer (some ⟨be,0,none⟩),.int .i64 i] W fun e w'=>e= .returned (.int .i64 (mk i))∧w'=W)
  (HV:∀i W,i < 2->a i≠mk i->St i W->Calls prog 15 #[.pointer (some ⟨be,0,none⟩),.int .i64 i,.int .i64 (a i)] W fun e w'=>e= .returned .nilIface∧St (i+1) w')
  (HE:∀i W,i < 2->a i=mk i->St i W->St (i+1) W):
  Calls prog 163 #[.pointer (some ⟨be,0,none⟩),.slice (some ⟨g,off,none⟩) 2 c] w fun e w'=>e= .returned (.bool true)∧St 2 w':=by
 have S0:=hid h0;clear h0;go_enter func163,ntmps163;go_wp2
 go_loopg [6] 2 (fun gg s6 wr=>∃i:Nat,i<=2∧gg=2 -i∧s6= .int .i64 i∧Hid (St i wr))
 case atStart=>exact⟨0,Nat.zero_le _,rfl,rfl,S0⟩
 case round=>
  obtain⟨i,hile,iU,rfl,I⟩:=hrel;have HG:=hid iU;clear iU S0
  by_cases hlt2:i < 2
  ·have j1:(0:Int)<=(i:Int):=by omega
   have j2:(i:Int) < 2:=by omega
   by_cases he:a i=mk i
   ·have hS:Hid (∀W,Below wr.heap.size wr W->St (i+1) W):=fun W hW=>HE i W hlt2 he (hd i wr W I.out hW)
    have hcc:=fun p os=>hc i i _ (hd i wr _ I.out (below_regrown wr p os)) hlt2
    have hgl:=fun p os=>hg i _ (hd i wr _ I.out (below_regrown wr p os))
    have hcm:Hid (∀p os,Calls prog 20 #[.pointer (some ⟨be,0,none⟩),.int .i64 i] (Go.Sort.grow (redrawn wr p) os) fun e w'=>e= .returned (.int .i64 (mk i))∧Below (Go.Sort.grow (redrawn wr p) os).heap.size (Go.Sort.grow (redrawn wr p) os) w'):=fun p os=>(HM i _ hlt2 (hd i wr _ I.out (below_regrown wr p os))).mono fun e w' ⟨h1,h2⟩=>⟨h1,by rw[h2];exact Below.refl _ _⟩
    have hb:(a i !=mk i)=false:=by rw[he];simp
    clear HV HE HM he hd hg hc I;go_wp2;refine wp_region_quiet_below (by kernel_rfl) (by kernel_rfl) ?_
    repeat (quiet_step (first | (go_at_call 20;exact Calls.regrown_of (hcm.out _ _)) | fail))
    refine wpQuiet_nil ?_;intro _ hw';obtain⟨⟨dq,osq⟩,hw''⟩:=hw';subst hw'';have G6:Hid (St (i+1) (Go.Sort.grow (redrawn wr dq) osq)):=hS.out _ (below_regrown wr dq osq);clear hcc hgl hcm hS
    dsimp only
    revert G6;generalize Go.Sort.grow (redrawn wr dq) osq=w6;intro G6;go_wp2
    go_roundg (2 -(i+1))
    all_goals first
     | (have :=HG.out;omega)
     | exact⟨i+1,by omega,rfl,by first | rfl | (congr 1;omega) | go_num,G6⟩
   ·have hgl:=hg i wr I.out;have hcc:=hc i i wr I.out hlt2;have hI:Hid (St i wr.drew):=hd i wr wr.drew I.out ((Below.refl _ _).drew);have hcm:Hid (Calls prog 20 #[.pointer (some ⟨be,0,none⟩),.int .i64 i] wr.drew fun e w'=>e= .returned (.int .i64 (mk i))∧w'=wr.drew):=HM i wr.drew hlt2 hI.out
    have hcv:Hid (Calls prog 15 #[.pointer (some ⟨be,0,none⟩),.int .i64 i,.int .i64 (a i)] wr.drew fun e w'=>e= .returned .nilIface∧w'.cell? ⟨g,off+i,none⟩=some (.int .i64 (a i))∧Hid (St (i+1) w')):=by
     refine(HV i wr.drew hlt2 he hI.out).mono ?_;rintro e w' ⟨rfl,h⟩;exact⟨rfl,hc _ i w' h hlt2,h⟩
    have hb:(a i !=mk i)=true:=by simpa using he
    clear HV HE HM he hd hg hc I;go_wp2
    go_region_held3 (fun W=>W.cell? ⟨g,off+i,none⟩=some (.int .i64 (a i))) (first | (go_keep;done) | fail) (first
     | (go_at_call 15;refine hcv.out.mono ?_;rintro e w3 ⟨rfl,hc3,h3⟩)
     | (go_at_call 20;refine hcm.out.mono ?_;rintro e w2 ⟨rfl,hw⟩;subst hw)
     | fail)
    go_wp2
    go_roundg (2 -(i+1))
    all_goals first
     | (have :=HG.out;omega)
     | exact⟨i+1,by omega,rfl,by first | rfl | (congr 1;omega) | go_num,h3⟩
  ·have j2:¬((i:Int) < 2):=by omega
   have I2:=I.out;rw[show i=2 by omega] at I2;clear I;go_wp2;go_ret;exact⟨rfl,I2⟩
end Go.Proofs.YthfpipieboophaaGreatDoor
