import Derived.Test.YthfpipieboophaaGreatDoorZaz
namespace Go.Proofs.YthfpipieboophaaGreatDoor
set_option maxRecDepth 100000
set_option maxHeartbeats 40000000
open Go.RowKit Go.Sort
section
open Go.Proofs.Tryz Go.Joins
variable {α:Type} {lf sf blk B n:Nat} {lb sb:Array Value}
abbrev bq (lf:Nat) (lb:Array Value) (sf:Nat) (sb:Array Value):Obj:= .cells #[.func (.func lf) #[] lb,.func (.func sf) #[] sb] 215
structure aF {α:Type} (Hd:Array α->World->Prop) (d:Array α) (blk:Nat) (o:Obj) (w W:World):Prop where
 hd:Hd d W
 g:w.grownBy W (some blk)
 box:W.heap[w.heap.size]? =some o
theorem aF.cells {Hd:Array α->World->Prop} {d:Array α} {w W:World} (h:aF Hd d blk (bq lf lb sf sb) w W):W.cell? ⟨w.heap.size,0,none⟩=some (.func (.func lf) #[] lb)∧W.cell? ⟨w.heap.size,1,none⟩=some (.func (.func sf) #[] sb):=
 ⟨by rw[cell_of_block h.box];rfl,by rw[cell_of_block h.box];rfl⟩
theorem kU [Inhabited α] {lt:α->α->Bool} {Hd:Array α->World->Prop} (S:si lt B blk n lf lb sf sb Hd) (d:Array α) (w:World) (hd:Hd d w):aF Hd d blk (bq lf lb sf sb) w (w.alloc (bq lf lb sf sb)):=⟨S.still _ _ _ hd (below_alloc1 _ _),World.grownBy_alloc _ _ _,heap_alloc_new _ _⟩
theorem sO [Inhabited α] {lt:α->α->Bool} {Hd:Array α->World->Prop} (S:si lt B blk n lf lb sf sb Hd) (d:Array α) (w W:World) (X Y:Int) (x y:Nat) (hX:X=(x:Int)) (hY:Y=(y:Int)) (hx:x < n) (hy:y < n) (h:aF Hd d blk (bq lf lb sf sb) w W):
  Calls prog lf (#[.int .i64 X,.int .i64 Y]++lb) W fun e w'=>e= .returned (.bool (lt d[x]! d[y]!))∧(w'.cell? ⟨w.heap.size,0,none⟩=some (.func (.func lf) #[] lb)∧w'.cell? ⟨w.heap.size,1,none⟩=some (.func (.func sf) #[] sb))∧Hid (aF Hd d blk (bq lf lb sf sb) w w'):=by
 subst hX hY;refine(S.less d W x y h.hd hx hy).mono ?_;rintro e w' ⟨rfl,hb⟩;have h2:aF Hd d blk (bq lf lb sf sb) w w':=⟨S.still _ _ _ h.hd hb,h.g.trans ⟨hb.os,hb.tape,hb.output,hb.size,fun k hk _=>hb.block k hk⟩,(hb.block _ (Array.getElem?_eq_some_iff.1 h.box).1).trans h.box⟩;exact⟨rfl,h2.cells,h2⟩
theorem sP [Inhabited α] {lt:α->α->Bool} {Hd:Array α->World->Prop} (S:si lt B blk n lf lb sf sb Hd) (d:Array α) (w W:World) (X Y:Int) (x y:Nat) (hX:X=(x:Int)) (hY:Y=(y:Int)) (hx:x < n) (hy:y < n) (hl:blk < w.heap.size) (h:aF Hd d blk (bq lf lb sf sb) w W):
  ∃W',(callFunc sf (#[.int .i64 X,.int .i64 Y]++sb)).run prog W= .ok (.value (.tuple #[])) W'∧Hid (aF Hd (swp d x y) blk (bq lf lb sf sb) w W'):=by
 subst hX hY;obtain⟨W',h1,h2,h3⟩:=S.swap d W x y h.hd hx hy;exact⟨W',h1,h2,h.g.trans h3,(h3.block _ (Array.getElem?_eq_some_iff.1 h.box).1 (by simp;omega)).trans h.box⟩
theorem dw [Inhabited α] {lt:α->α->Bool} {Hd:Array α->World->Prop} (S:si lt B blk n lf lb sf sb Hd) (w:World):∀(X Y:Int) (x y:Nat) (d':Array α) (W:World),X=(x:Int)->Y=(y:Int)->x < n->y < n->Hid (aF Hd d' blk (bq lf lb sf sb) w W)->Calls prog lf (#[.int .i64 X,.int .i64 Y]++lb) W fun e w'=>e= .returned (.bool (lt d'[x]! d'[y]!))∧(w'.cell? ⟨w.heap.size,0,none⟩=some (.func (.func lf) #[] lb)∧w'.cell? ⟨w.heap.size,1,none⟩=some (.func (.func sf) #[] sb))∧Hid (aF Hd d' blk (bq lf lb sf sb) w w'):=fun X Y x y d' W a1 a2 a3 a4 a5=>sO S d' w W X Y x y a1 a2 a3 a4 a5.out
theorem ek [Inhabited α] {lt:α->α->Bool} {Hd:Array α->World->Prop} (S:si lt B blk n lf lb sf sb Hd) (w:World) (hlt:blk < w.heap.size):∀(X Y:Int) (x y:Nat) (d':Array α) (W:World),X=(x:Int)->Y=(y:Int)->x < n->y < n->Hid (aF Hd d' blk (bq lf lb sf sb) w W)->∃W',(callFunc sf (#[.int .i64 X,.int .i64 Y]++sb)).run prog W= .ok (.value (.tuple #[])) W'∧Hid (aF Hd (swp d' x y) blk (bq lf lb sf sb) w W'):=fun X Y x y d' W a1 a2 a3 a4 a5=>sP S d' w W X Y x y a1 a2 a3 a4 hlt a5.out
theorem TH [Inhabited α] {lt:α->α->Bool} {Hd:Array α->World->Prop} (S:si lt B blk n lf lb sf sb Hd) (d:Array α) (mh hi first:Nat) (w:World) (hd:Hd d w) (h1:first+hi<=n) (h2:mh<=hi) (hn:n<=1000000):
  Calls prog 294 #[.agg #[.func (.func lf) #[] lb,.func (.func sf) #[] sb],.int .i64 mh,.int .i64 hi,.int .i64 first] w fun e w'=>e= .returned (.tuple #[])∧Hd (siftDown lt hi first mh d) w'∧w.grownBy w' (some blk):=by
 have hlt:=S.blt d w hd;have OZ:=S.enters;have H0:=hid (kU S d w hd);have HL:=hid (dw S w);have HW:=hid (ek S w hlt)
 have i1:(hi:Int)<=1000000:=by omega
 have i2:(first:Int)<=1000000:=by omega
 clear S hd;go_enter func294,ntmps294;go_wp2
 go_loopg [8] (hi+1 -mh) (fun g v8 wr=>∃(root:Nat) (d':Array α),root<=hi∧g=hi+1 -root∧v8= .int .i64 root∧siftDown lt hi first root d'=siftDown lt hi first mh d∧Hid (aF Hd d' blk (bq lf lb sf sb) w wr))
 case atStart=>exact⟨mh,d,h2,rfl,rfl,rfl,H0⟩
 case round=>
  obtain⟨root,d',hr,hg,rfl,hR,HH⟩:=hrel;have HG:=hid hg;have HR:=hid hR;have c0:=HH.out.cells
  have i3:(root:Int)<=1000000:=by omega
  clear hg hR H0
  by_cases hA:hi<=2 * root+1
  ·have q1:¬(2 * (root:Int)+1) < (hi:Int):=by omega
   have hr2:siftDown lt hi first mh d=d':=by
    rw[<-HR.out,siftDown,dif_pos hA]
   have HR2:=hid hr2;clear hr2;go_wp2
   first
    | go_end0
    | ((try simp only[Exit.inBlock,Exit.then]);refine bodyPost_ret (results_none rfl _ _ _) rfl ?_)
   exact⟨rfl,by rw[HR2.out];exact HH.out.hd,HH.out.g⟩
  ·by_cases hB:2 * root+1+1 < hi
   ·cases e1:lt d'[first+(2 * root+1)]! d'[first+(2 * root+1)+1]! with
    | true=>
     cases e2:lt d'[first+root]! d'[first+(2 * root+2)]! with
     | true=>
      have q1:(2 * (root:Int)+1) < (hi:Int):=by omega
      have q2:(2 * (root:Int)+1+1) < (hi:Int):=by omega
      have H1:Hid (Calls prog lf (#[.int .i64 ((first:Int)+(2 * (root:Int)+1)),.int .i64 ((first:Int)+(2 * (root:Int)+1)+1)]++lb) wr fun e w'=>e= .returned (.bool true)∧(w'.cell? ⟨w.heap.size,0,none⟩=some (.func (.func lf) #[] lb)∧w'.cell? ⟨w.heap.size,1,none⟩=some (.func (.func sf) #[] sb))∧Hid (aF Hd d' blk (bq lf lb sf sb) w w')):=by
       have :=HL.out ((first:Int)+(2 * (root:Int)+1)) ((first:Int)+(2 * (root:Int)+1)+1) (first+(2 * root+1)) (first+(2 * root+1)+1) d' wr (by omega) (by omega) (by omega) (by omega) HH;rw[e1] at this;exact this
      have H2:Hid (∀W,Hid (aF Hd d' blk (bq lf lb sf sb) w W)->Calls prog lf (#[.int .i64 ((first:Int)+(root:Int)),.int .i64 ((first:Int)+(2 * (root:Int)+1+1))]++lb) W fun e w'=>e= .returned (.bool true)∧(w'.cell? ⟨w.heap.size,0,none⟩=some (.func (.func lf) #[] lb)∧w'.cell? ⟨w.heap.size,1,none⟩=some (.func (.func sf) #[] sb))∧Hid (aF Hd d' blk (bq lf lb sf sb) w w')):=by
       intro W hW;have :=HL.out ((first:Int)+(root:Int)) ((first:Int)+(2 * (root:Int)+1+1)) (first+root) (first+(2 * root+2)) d' W (by omega) (by omega) (by omega) (by omega) hW;rw[e2] at this;exact this
      have H3:Hid (∀W,Hid (aF Hd d' blk (bq lf lb sf sb) w W)->∃W',(callFunc sf (#[.int .i64 ((first:Int)+(root:Int)),.int .i64 ((first:Int)+(2 * (root:Int)+1+1))]++sb)).run prog W= .ok (.value (.tuple #[])) W'∧Hid (aF Hd (swp d' (first+root) (first+(2 * root+2))) blk (bq lf lb sf sb) w W')):=fun W hW=>HW.out ((first:Int)+(root:Int)) ((first:Int)+(2 * (root:Int)+1+1)) (first+root) (first+(2 * root+2)) d' W (by omega) (by omega) (by omega) (by omega) hW
      have k1:(decide (2 * root+1+1 < hi) && lt d'[first+(2 * root+1)]! d'[first+(2 * root+1)+1]!)=true:=by rw[e1,decide_eq_true hB];rfl
      have k2:¬(!lt d'[first+root]! d'[first+(2 * root+2)]!)=true:=by rw[e2];simp
      have hr2:siftDown lt hi first (2 * root+2) (swp d' (first+root) (first+(2 * root+2)))=siftDown lt hi first mh d:=by
       rw[<-HR.out]
       conv=>rhs;rw[siftDown,dif_neg (by omega),if_pos k1,if_neg k2,dif_pos (by omega)]
      have HR2:=hid hr2;clear hr2 k1 k2;clear e1 e2 HL HW;go_wp2_with fail;refine H1.out.mono ?_;rintro e w1 ⟨rfl,c1,h1⟩;clear c0;go_wp2_with fail;refine(H2.out _ h1).mono ?_;rintro e w2 ⟨rfl,c2,h2⟩;clear c1;obtain⟨W3,hrun,h3⟩:=H3.out _ h2;go_wp2
      go_roundg (hi+1 -(2 * root+2))
      case measure=>have :=HG.out;omega
      case rel=>exact⟨2 * root+2,_,by omega,rfl,by first | rfl | go_num | (congr 1;omega),HR2.out,h3⟩
     | false=>
      have q1:(2 * (root:Int)+1) < (hi:Int):=by omega
      have q2:(2 * (root:Int)+1+1) < (hi:Int):=by omega
      have H1:Hid (Calls prog lf (#[.int .i64 ((first:Int)+(2 * (root:Int)+1)),.int .i64 ((first:Int)+(2 * (root:Int)+1)+1)]++lb) wr fun e w'=>e= .returned (.bool true)∧(w'.cell? ⟨w.heap.size,0,none⟩=some (.func (.func lf) #[] lb)∧w'.cell? ⟨w.heap.size,1,none⟩=some (.func (.func sf) #[] sb))∧Hid (aF Hd d' blk (bq lf lb sf sb) w w')):=by
       have :=HL.out ((first:Int)+(2 * (root:Int)+1)) ((first:Int)+(2 * (root:Int)+1)+1) (first+(2 * root+1)) (first+(2 * root+1)+1) d' wr (by omega) (by omega) (by omega) (by omega) HH;rw[e1] at this;exact this
      have H2:Hid (∀W,Hid (aF Hd d' blk (bq lf lb sf sb) w W)->Calls prog lf (#[.int .i64 ((first:Int)+(root:Int)),.int .i64 ((first:Int)+(2 * (root:Int)+1+1))]++lb) W fun e w'=>e= .returned (.bool false)∧(w'.cell? ⟨w.heap.size,0,none⟩=some (.func (.func lf) #[] lb)∧w'.cell? ⟨w.heap.size,1,none⟩=some (.func (.func sf) #[] sb))∧Hid (aF Hd d' blk (bq lf lb sf sb) w w')):=by
       intro W hW;have :=HL.out ((first:Int)+(root:Int)) ((first:Int)+(2 * (root:Int)+1+1)) (first+root) (first+(2 * root+2)) d' W (by omega) (by omega) (by omega) (by omega) hW;rw[e2] at this;exact this
      have k1:(decide (2 * root+1+1 < hi) && lt d'[first+(2 * root+1)]! d'[first+(2 * root+1)+1]!)=true:=by rw[e1,decide_eq_true hB];rfl
      have k2:(!lt d'[first+root]! d'[first+(2 * root+2)]!)=true:=by rw[e2];rfl
      have hr2:siftDown lt hi first mh d=d':=by
       rw[<-HR.out,siftDown,dif_neg (by omega),if_pos k1,if_pos k2]
      have HR2:=hid hr2;clear hr2 k1 k2;clear e1 e2 HL HW;go_wp2_with fail;refine H1.out.mono ?_;rintro e w1 ⟨rfl,c1,h1⟩;clear c0;go_wp2_with fail;refine(H2.out _ h1).mono ?_;rintro e w2 ⟨rfl,c2,h2⟩;clear c1;go_wp2
      (try simp only[Exit.inBlock,Exit.then])
      refine bodyPost_ret (results_none rfl _ _ _) rfl ?_;exact⟨rfl,by rw[HR2.out];exact h2.out.hd,h2.out.g⟩
    | false=>
     cases e2:lt d'[first+root]! d'[first+(2 * root+1)]! with
     | true=>
      have q1:(2 * (root:Int)+1) < (hi:Int):=by omega
      have q2:(2 * (root:Int)+1+1) < (hi:Int):=by omega
      have H1:Hid (Calls prog lf (#[.int .i64 ((first:Int)+(2 * (root:Int)+1)),.int .i64 ((first:Int)+(2 * (root:Int)+1)+1)]++lb) wr fun e w'=>e= .returned (.bool false)∧(w'.cell? ⟨w.heap.size,0,none⟩=some (.func (.func lf) #[] lb)∧w'.cell? ⟨w.heap.size,1,none⟩=some (.func (.func sf) #[] sb))∧Hid (aF Hd d' blk (bq lf lb sf sb) w w')):=by
       have :=HL.out ((first:Int)+(2 * (root:Int)+1)) ((first:Int)+(2 * (root:Int)+1)+1) (first+(2 * root+1)) (first+(2 * root+1)+1) d' wr (by omega) (by omega) (by omega) (by omega) HH;rw[e1] at this;exact this
      have H2:Hid (∀W,Hid (aF Hd d' blk (bq lf lb sf sb) w W)->Calls prog lf (#[.int .i64 ((first:Int)+(root:Int)),.int .i64 ((first:Int)+(2 * (root:Int)+1))]++lb) W fun e w'=>e= .returned (.bool true)∧(w'.cell? ⟨w.heap.size,0,none⟩=some (.func (.func lf) #[] lb)∧w'.cell? ⟨w.heap.size,1,none⟩=some (.func (.func sf) #[] sb))∧Hid (aF Hd d' blk (bq lf lb sf sb) w w')):=by
       intro W hW;have :=HL.out ((first:Int)+(root:Int)) ((first:Int)+(2 * (root:Int)+1)) (first+root) (first+(2 * root+1)) d' W (by omega) (by omega) (by omega) (by omega) hW;rw[e2] at this;exact this
      have H3:Hid (∀W,Hid (aF Hd d' blk (bq lf lb sf sb) w W)->∃W',(callFunc sf (#[.int .i64 ((first:Int)+(root:Int)),.int .i64 ((first:Int)+(2 * (root:Int)+1))]++sb)).run prog W= .ok (.value (.tuple #[])) W'∧Hid (aF Hd (swp d' (first+root) (first+(2 * root+1))) blk (bq lf lb sf sb) w W')):=fun W hW=>HW.out ((first:Int)+(root:Int)) ((first:Int)+(2 * (root:Int)+1)) (first+root) (first+(2 * root+1)) d' W (by omega) (by omega) (by omega) (by omega) hW
      have k1:¬(decide (2 * root+1+1 < hi) && lt d'[first+(2 * root+1)]! d'[first+(2 * root+1)+1]!)=true:=by rw[e1];simp
      have k2:¬(!lt d'[first+root]! d'[first+(2 * root+1)]!)=true:=by rw[e2];simp
      have hr2:siftDown lt hi first (2 * root+1) (swp d' (first+root) (first+(2 * root+1)))=siftDown lt hi first mh d:=by
       rw[<-HR.out]
       conv=>rhs;rw[siftDown,dif_neg (by omega),if_neg k1,if_neg k2]
      have HR2:=hid hr2;clear hr2 k1 k2;clear e1 e2 HL HW;go_wp2_with fail;refine H1.out.mono ?_;rintro e w1 ⟨rfl,c1,h1⟩;clear c0;go_wp2_with fail;refine(H2.out _ h1).mono ?_;rintro e w2 ⟨rfl,c2,h2⟩;clear c1;obtain⟨W3,hrun,h3⟩:=H3.out _ h2;go_wp2
      go_roundg (hi+1 -(2 * root+1))
      case measure=>have :=HG.out;omega
      case rel=>exact⟨2 * root+1,_,by omega,rfl,by first | rfl | go_num | (congr 1;omega),HR2.out,h3⟩
     | false=>
      have q1:(2 * (root:Int)+1) < (hi:Int):=by omega
      have q2:(2 * (root:Int)+1+1) < (hi:Int):=by omega
      have H1:Hid (Calls prog lf (#[.int .i64 ((first:Int)+(2 * (root:Int)+1)),.int .i64 ((first:Int)+(2 * (root:Int)+1)+1)]++lb) wr fun e w'=>e= .returned (.bool false)∧(w'.cell? ⟨w.heap.size,0,none⟩=some (.func (.func lf) #[] lb)∧w'.cell? ⟨w.heap.size,1,none⟩=some (.func (.func sf) #[] sb))∧Hid (aF Hd d' blk (bq lf lb sf sb) w w')):=by
       have :=HL.out ((first:Int)+(2 * (root:Int)+1)) ((first:Int)+(2 * (root:Int)+1)+1) (first+(2 * root+1)) (first+(2 * root+1)+1) d' wr (by omega) (by omega) (by omega) (by omega) HH;rw[e1] at this;exact this
      have H2:Hid (∀W,Hid (aF Hd d' blk (bq lf lb sf sb) w W)->Calls prog lf (#[.int .i64 ((first:Int)+(root:Int)),.int .i64 ((first:Int)+(2 * (root:Int)+1))]++lb) W fun e w'=>e= .returned (.bool false)∧(w'.cell? ⟨w.heap.size,0,none⟩=some (.func (.func lf) #[] lb)∧w'.cell? ⟨w.heap.size,1,none⟩=some (.func (.func sf) #[] sb))∧Hid (aF Hd d' blk (bq lf lb sf sb) w w')):=by
       intro W hW;have :=HL.out ((first:Int)+(root:Int)) ((first:Int)+(2 * (root:Int)+1)) (first+root) (first+(2 * root+1)) d' W (by omega) (by omega) (by omega) (by omega) hW;rw[e2] at this;exact this
      have k1:¬(decide (2 * root+1+1 < hi) && lt d'[first+(2 * root+1)]! d'[first+(2 * root+1)+1]!)=true:=by rw[e1];simp
      have k2:(!lt d'[first+root]! d'[first+(2 * root+1)]!)=true:=by rw[e2];rfl
      have hr2:siftDown lt hi first mh d=d':=by
       rw[<-HR.out,siftDown,dif_neg (by omega),if_neg k1,if_pos k2]
      have HR2:=hid hr2;clear hr2 k1 k2;clear e1 e2 HL HW;go_wp2_with fail;refine H1.out.mono ?_;rintro e w1 ⟨rfl,c1,h1⟩;clear c0;go_wp2_with fail;refine(H2.out _ h1).mono ?_;rintro e w2 ⟨rfl,c2,h2⟩;clear c1;go_wp2
      (try simp only[Exit.inBlock,Exit.then])
      refine bodyPost_ret (results_none rfl _ _ _) rfl ?_;exact⟨rfl,by rw[HR2.out];exact h2.out.hd,h2.out.g⟩
   ·cases e2:lt d'[first+root]! d'[first+(2 * root+1)]! with
    | true=>
     have q1:(2 * (root:Int)+1) < (hi:Int):=by omega
     have q2:¬(2 * (root:Int)+1+1) < (hi:Int):=by omega
     have H2:Hid (∀W,Hid (aF Hd d' blk (bq lf lb sf sb) w W)->Calls prog lf (#[.int .i64 ((first:Int)+(root:Int)),.int .i64 ((first:Int)+(2 * (root:Int)+1))]++lb) W fun e w'=>e= .returned (.bool true)∧(w'.cell? ⟨w.heap.size,0,none⟩=some (.func (.func lf) #[] lb)∧w'.cell? ⟨w.heap.size,1,none⟩=some (.func (.func sf) #[] sb))∧Hid (aF Hd d' blk (bq lf lb sf sb) w w')):=by
      intro W hW;have :=HL.out ((first:Int)+(root:Int)) ((first:Int)+(2 * (root:Int)+1)) (first+root) (first+(2 * root+1)) d' W (by omega) (by omega) (by omega) (by omega) hW;rw[e2] at this;exact this
     have H3:Hid (∀W,Hid (aF Hd d' blk (bq lf lb sf sb) w W)->∃W',(callFunc sf (#[.int .i64 ((first:Int)+(root:Int)),.int .i64 ((first:Int)+(2 * (root:Int)+1))]++sb)).run prog W= .ok (.value (.tuple #[])) W'∧Hid (aF Hd (swp d' (first+root) (first+(2 * root+1))) blk (bq lf lb sf sb) w W')):=fun W hW=>HW.out ((first:Int)+(root:Int)) ((first:Int)+(2 * (root:Int)+1)) (first+root) (first+(2 * root+1)) d' W (by omega) (by omega) (by omega) (by omega) hW
     have k1:¬(decide (2 * root+1+1 < hi) && lt d'[first+(2 * root+1)]! d'[first+(2 * root+1)+1]!)=true:=by rw[decide_eq_false hB];simp
     have k2:¬(!lt d'[first+root]! d'[first+(2 * root+1)]!)=true:=by rw[e2];simp
     have hr2:siftDown lt hi first (2 * root+1) (swp d' (first+root) (first+(2 * root+1)))=siftDown lt hi first mh d:=by
      rw[<-HR.out]
      conv=>rhs;rw[siftDown,dif_neg (by omega),if_neg k1,if_neg k2]
     have HR2:=hid hr2;clear hr2 k1 k2;clear e2 HL HW;go_wp2_with fail;refine(H2.out _ HH).mono ?_;rintro e w2 ⟨rfl,c2,h2⟩;obtain⟨W3,hrun,h3⟩:=H3.out _ h2;go_wp2
     go_roundg (hi+1 -(2 * root+1))
     case measure=>have :=HG.out;omega
     case rel=>exact⟨2 * root+1,_,by omega,rfl,by first | rfl | go_num | (congr 1;omega),HR2.out,h3⟩
    | false=>
     have q1:(2 * (root:Int)+1) < (hi:Int):=by omega
     have q2:¬(2 * (root:Int)+1+1) < (hi:Int):=by omega
     have H2:Hid (∀W,Hid (aF Hd d' blk (bq lf lb sf sb) w W)->Calls prog lf (#[.int .i64 ((first:Int)+(root:Int)),.int .i64 ((first:Int)+(2 * (root:Int)+1))]++lb) W fun e w'=>e= .returned (.bool false)∧(w'.cell? ⟨w.heap.size,0,none⟩=some (.func (.func lf) #[] lb)∧w'.cell? ⟨w.heap.size,1,none⟩=some (.func (.func sf) #[] sb))∧Hid (aF Hd d' blk (bq lf lb sf sb) w w')):=by
      intro W hW;have :=HL.out ((first:Int)+(root:Int)) ((first:Int)+(2 * (root:Int)+1)) (first+root) (first+(2 * root+1)) d' W (by omega) (by omega) (by omega) (by omega) hW;rw[e2] at this;exact this
     have k1:¬(decide (2 * root+1+1 < hi) && lt d'[first+(2 * root+1)]! d'[first+(2 * root+1)+1]!)=true:=by rw[decide_eq_false hB];simp
     have k2:(!lt d'[first+root]! d'[first+(2 * root+1)]!)=true:=by rw[e2];rfl
     have hr2:siftDown lt hi first mh d=d':=by
      rw[<-HR.out,siftDown,dif_neg (by omega),if_neg k1,if_pos k2]
     have HR2:=hid hr2;clear hr2 k1 k2;clear e2 HL HW;go_wp2_with fail;refine(H2.out _ HH).mono ?_;rintro e w2 ⟨rfl,c2,h2⟩;go_wp2
     (try simp only[Exit.inBlock,Exit.then])
     refine bodyPost_ret (results_none rfl _ _ _) rfl ?_;exact⟨rfl,by rw[HR2.out];exact h2.out.hd,h2.out.g⟩
end
section
theorem TI {α:Type} [Inhabited α] {lt:α->α->Bool} {B blk n lf sf:Nat} {lb sb:Array Value} {Hd:Array α->World->Prop} (S:si lt B blk n lf lb sf sb Hd) (d:Array α) (a b:Nat) (w:World) (hd:Hd d w) (hab:a < b) (hb:b<=n) (hn:n<=1000000):
  Calls Tryz.prog 255 #[.agg #[.func (.func lf) #[] lb,.func (.func sf) #[] sb],.int .i64 a,.int .i64 b] w fun e w'=>e= .returned (.tuple #[])∧Hd (heapSort lt d a b) w'∧w.grownBy w' (some blk):=by
 have hlt:=S.blt d w hd;have H0:=hid (kU S d w hd);have HW:=hid (ek S w hlt)
 have HT:Hid (∀(X Y:Int) (x hi:Nat) (d':Array α) (W:World),X=(x:Int)->Y=(hi:Int)->a+hi<=n->x<=hi->Hid (aF Hd d' blk (bq lf lb sf sb) w W)->Calls Tryz.prog 294 #[.agg #[.func (.func lf) #[] lb,.func (.func sf) #[] sb],.int .i64 X,.int .i64 Y,.int .i64 a] W fun e w'=>e= .returned (.tuple #[])∧Hid (aF Hd (siftDown lt hi a x d') blk (bq lf lb sf sb) w w')):=by
  rintro X Y x hi d' W rfl rfl h1 h2 hS;refine(TH S d' x hi a W hS.out.hd h1 h2 hn).mono ?_;rintro e w' ⟨rfl,g1,g2⟩;exact⟨rfl,g1,hS.out.g.trans g2,(g2.block _ (Array.getElem?_eq_some_iff.1 hS.out.box).1 (by simp;omega)).trans hS.out.box⟩
 have i1:(b:Int) -(a:Int)=((b -a:Nat):Int):=by omega
 have i2:(a:Int)<=1000000:=by omega
 have i3:(b:Int)<=1000000:=by omega
 have i4:(1:Int)<=((b -a:Nat):Int):=by omega
 clear S hd;go_enter Tryz.func255,Tryz.ntmps255;go_wp2
 go_loopg [9] ((b -a -1)/2+1) (fun g v9 wr=>∃(k:Nat) (d':Array α),k<=(b -a -1)/2+1∧g=k∧v9= .int .i64 ((k:Int) -1)∧heapBuild lt (b -a) a k d'=heapBuild lt (b -a) a ((b -a -1)/2+1) d∧Hid (aF Hd d' blk (bq lf lb sf sb) w wr))
 case atStart=>exact⟨(b -a -1)/2+1,d,Nat.le_refl _,rfl,by first | rfl | (congr 1;omega),rfl,H0⟩
 case round=>
  obtain⟨k,d',hk,hg,rfl,hR,HH⟩:=hrel;have HG:=hid hg;have HR:=hid hR;have c0:=HH.out.cells;clear hg hR H0
  cases k with
  | zero=>
   have q0:¬(0:Int)<=((0:Nat):Int) -1:=by omega
   go_wp2
   go_loopg [10] (b -a) (fun g v10 wr=>∃(k:Nat) (d2:Array α),k<=b -a∧g=k∧v10= .int .i64 ((k:Int) -1)∧heapPop lt a k d2=heapSort lt d a b∧Hid (aF Hd d2 blk (bq lf lb sf sb) w wr))
   case atStart=>
    refine⟨b -a,d',Nat.le_refl _,rfl,by first | rfl | (congr 1;omega),?_,HH⟩;unfold heapSort;rw[<-HR.out];rfl
   case round=>
    obtain⟨k,d2,hk2,hg2,rfl,hR2,M5⟩:=hrel;have HG2:=hid hg2;have HR2:=hid hR2;have c2:=M5.out.cells;clear hg2 hR2 c0
    cases k with
    | zero=>
     have q2:¬(0:Int)<=((0:Nat):Int) -1:=by omega
     go_wp2
     go_end0
     refine⟨rfl,?_,M5.out.g⟩;rw[<-HR2.out];exact M5.out.hd
    | succ k=>
     have q2:(0:Int)<=((k+1:Nat):Int) -1:=by omega
     have q3:((k+1:Nat):Int) -1=(k:Int):=by omega
     have q4:(k:Int)<=1000000:=by omega
     obtain⟨W3,hrun,h3⟩:=HW.out (a:Int) ((a:Int)+(k:Int)) a (a+k) d2 wr rfl (by omega) (by omega) (by omega) M5;have HT2:=HT.out 0 (k:Int) 0 k (swp d2 a (a+k)) W3 rfl rfl (by omega) (by omega) h3;have HT3:=hid HT2;have c3:=h3.out.cells;rw[q3];clear HT2 q3 HT HW;go_wp2_with fail;refine HT3.out.mono ?_;rintro e w4 ⟨rfl,h4⟩;go_wp2
     go_roundg k
     case measure=>have :=HG2.out;omega
     case rel=>exact⟨k,_,by omega,rfl,by first | rfl | go_num,HR2.out,h4⟩
  | succ k=>
   have q0:(0:Int)<=((k+1:Nat):Int) -1:=by omega
   have q3:((k+1:Nat):Int) -1=(k:Int):=by omega
   have q4:(k:Int)<=1000000:=by omega
   have HT2:Hid (Calls Tryz.prog 294 #[.agg #[.func (.func lf) #[] lb,.func (.func sf) #[] sb],.int .i64 (k:Int),.int .i64 ((b -a:Nat):Int),.int .i64 a] wr fun e w'=>e= .returned (.tuple #[])∧Hid (aF Hd (siftDown lt (b -a) a k d') blk (bq lf lb sf sb) w w')):=HT.out (k:Int) ((b -a:Nat):Int) k (b -a) d' wr rfl rfl (by omega) (by omega) HH;rw[q3];clear q3 HT HW;go_wp2_with fail;refine HT2.out.mono ?_;rintro e w4 ⟨rfl,h4⟩;go_wp2
   go_roundg k
   case measure=>have :=HG.out;omega
   case rel=>exact⟨k,_,by omega,rfl,by first | rfl | go_num,HR.out,h4⟩
end
end Go.Proofs.YthfpipieboophaaGreatDoor
