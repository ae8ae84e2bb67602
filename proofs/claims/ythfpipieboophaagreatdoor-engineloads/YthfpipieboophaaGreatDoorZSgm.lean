import Derived.Sort.Walk13
import Derived.Sort.AssemblyPlain
import Derived.Shelf.GgSortFunc.Small
import Derived.Test.YthfpipieboophaaGreatDoorZSgi
import Derived.Test.YthfpipieboophaaGreatDoorSgj
import Derived.Test.YthfpipieboophaaGreatDoorSgk
namespace Go.Proofs.YthfpipieboophaaGreatDoor
set_option maxRecDepth 100000
set_option maxHeartbeats 40000000
open Go.Proofs.Tryz Go.RowKit Go.Sort
section
theorem IY{α:Type}[Inhabited α]{lt:α->α->Bool}{B blk n lf m:Nat}{lb o:Array Value}{s:Array α->World->Prop}(S:si lt B blk n lf lb m o s)(hO:SWO lt)(V:n<=1000000) :
    ∀ (N a b limit:Nat) (d:Array α) (w:World),b-a<N->s d w->a<=b->b<=n->limit<=1000000->Go.Sort.Below lt a b d ->
    Calls prog 191 #[.agg #[.func (.func lf) #[] lb,.func (.func m) #[] o],.int .i64 a,.int .i64 b,.int .i64 limit] w λe j => e = .returned (.tuple #[])/\s (pdq lt d a b limit true true) j/\w.grownBy j (some blk):=by
  intro N
  induction N with
  | zero => intro _ _ _ _ _ h; exact absurd h (Nat.not_lt_zero _)
  | succ N ih =>
  intro a b limit d w hN hd hab hb F K
  have hlt:=S.blt d w hd
  have OZ:=S.enters
  have hdn:=S.size d w hd
  have H0:=hid (kU S d w hd)
  have HL:=hid (dw S w)
  have aaw:Hid (∀ (dk:Array α) (W:World) (x y:Nat),x<=y->y<=n->Hid (aF s dk blk (bq lf lb m o) w W)->Calls prog 208 #[.agg #[.func (.func lf) #[] lb,.func (.func m) #[] o],.int .i64 x,.int .i64 y] W λe j => e = .returned (.tuple #[])/\(j.cell? ⟨w.heap.size,0,none⟩=some (.func (.func lf) #[] lb)/\j.cell? ⟨w.heap.size,1,none⟩=some (.func (.func m) #[] o))/\Hid (aF s (insertionSort lt dk x y) blk (bq lf lb m o) w j)):=by
    intro dk W x y u q r
    refine(WA S dk x y W r.out.hd q V (by omega)).mono ?_
    rintro e j ⟨rfl,z,t⟩
    have q:aF s (insertionSort lt dk x y) blk (bq lf lb m o) w j:=⟨z,r.out.g.trans t,(t.block _ (ax.1 r.out.box).1 (by simp; omega)).trans r.out.box⟩
    exact⟨rfl,q.cells,q⟩
  have Yz:Hid (∀ (dk:Array α) (W:World) (x y:Nat),x<y->y<=n->Hid (aF s dk blk (bq lf lb m o) w W)->Calls prog 255 #[.agg #[.func (.func lf) #[] lb,.func (.func m) #[] o],.int .i64 x,.int .i64 y] W λe j => e = .returned (.tuple #[])/\(j.cell? ⟨w.heap.size,0,none⟩=some (.func (.func lf) #[] lb)/\j.cell? ⟨w.heap.size,1,none⟩=some (.func (.func m) #[] o))/\Hid (aF s (heapSort lt dk x y) blk (bq lf lb m o) w j)):=by
    intro dk W x y u q r
    refine(TI S dk x y W r.out.hd u q V).mono ?_
    rintro e j ⟨rfl,z,t⟩
    have q:aF s (heapSort lt dk x y) blk (bq lf lb m o) w j:=⟨z,r.out.g.trans t,(t.block _ (ax.1 r.out.box).1 (by simp; omega)).trans r.out.box⟩
    exact⟨rfl,q.cells,q⟩
  have aax:Hid (∀ (dk:Array α) (W:World) (x y:Nat),x<=y->y<=n->Hid (aF s dk blk (bq lf lb m o) w W)->Calls prog 256 #[.agg #[.func (.func lf) #[] lb,.func (.func m) #[] o],.int .i64 x,.int .i64 y] W λe j => e = .returned (.tuple #[])/\(j.cell? ⟨w.heap.size,0,none⟩=some (.func (.func lf) #[] lb)/\j.cell? ⟨w.heap.size,1,none⟩=some (.func (.func m) #[] o))/\Hid (aF s (breakPatterns dk x y) blk (bq lf lb m o) w j)):=by
    intro dk W x y u q r
    refine(QR S dk x y W r.out.hd u q V).mono ?_
    rintro e j ⟨rfl,z,t⟩
    have q:aF s (breakPatterns dk x y) blk (bq lf lb m o) w j:=⟨z,r.out.g.trans t,(t.block _ (ax.1 r.out.box).1 (by simp; omega)).trans r.out.box⟩
    exact⟨rfl,q.cells,q⟩
  have aay:Hid (∀ (dk:Array α) (W:World) (x y:Nat),x<=y->y<=n->Hid (aF s dk blk (bq lf lb m o) w W)->Calls prog 257 #[.agg #[.func (.func lf) #[] lb,.func (.func m) #[] o],.int .i64 x,.int .i64 y] W λe j => e = .returned (.tuple #[.int .i64 (choosePivot lt dk x y).1,.int .i64 (hintCode (choosePivot lt dk x y).2)])/\(j.cell? ⟨w.heap.size,0,none⟩=some (.func (.func lf) #[] lb)/\j.cell? ⟨w.heap.size,1,none⟩=some (.func (.func m) #[] o))/\Hid (aF s dk blk (bq lf lb m o) w j)):=by
    intro dk W x y u q r
    refine(QN S dk x y W r.out.hd u q V).mono ?_
    rintro e j ⟨rfl,z,t⟩
    have q:aF s dk blk (bq lf lb m o) w j:=⟨z,r.out.g.trans ⟨t.os,t.tape,t.output,t.size,λk hk _ => t.block k hk⟩,(t.block _ (ax.1 r.out.box).1).trans r.out.box⟩
    exact⟨rfl,q.cells,q⟩
  have aaz:Hid (∀ (dk:Array α) (W:World) (x y:Nat),x<y->y<=n->Hid (aF s dk blk (bq lf lb m o) w W)->Calls prog 258 #[.agg #[.func (.func lf) #[] lb,.func (.func m) #[] o],.int .i64 x,.int .i64 y] W λe j => e = .returned (.tuple #[])/\(j.cell? ⟨w.heap.size,0,none⟩=some (.func (.func lf) #[] lb)/\j.cell? ⟨w.heap.size,1,none⟩=some (.func (.func m) #[] o))/\Hid (aF s (reverseRange dk x y) blk (bq lf lb m o) w j)):=by
    intro dk W x y u q r
    refine(IV S dk x y W r.out.hd q u V).mono ?_
    rintro e j ⟨rfl,z,t⟩
    have q:aF s (reverseRange dk x y) blk (bq lf lb m o) w j:=⟨z,r.out.g.trans t,(t.block _ (ax.1 r.out.box).1 (by simp; omega)).trans r.out.box⟩
    exact⟨rfl,q.cells,q⟩
  have HPi:Hid (∀ (dk:Array α) (W:World) (x y:Nat),x<y->y<=n->Hid (aF s dk blk (bq lf lb m o) w W)->Calls prog 259 #[.agg #[.func (.func lf) #[] lb,.func (.func m) #[] o],.int .i64 x,.int .i64 y] W λe j => e = .returned (.bool (partialInsertionSort lt dk x y).2)/\(j.cell? ⟨w.heap.size,0,none⟩=some (.func (.func lf) #[] lb)/\j.cell? ⟨w.heap.size,1,none⟩=some (.func (.func m) #[] o))/\Hid (aF s (partialInsertionSort lt dk x y).1 blk (bq lf lb m o) w j)):=by
    intro dk W x y u q r
    refine(IW S dk x y W r.out.hd u q V).mono ?_
    rintro e j ⟨rfl,z,t⟩
    have q:aF s (partialInsertionSort lt dk x y).1 blk (bq lf lb m o) w j:=⟨z,r.out.g.trans t,(t.block _ (ax.1 r.out.box).1 (by simp; omega)).trans r.out.box⟩
    exact⟨rfl,q.cells,q⟩
  have HPe:Hid (∀ (dk:Array α) (W:World) (x y p:Nat),x<=p->p<y->y<=n->Hid (aF s dk blk (bq lf lb m o) w W)->Calls prog 260 #[.agg #[.func (.func lf) #[] lb,.func (.func m) #[] o],.int .i64 x,.int .i64 y,.int .i64 p] W λe j => e = .returned (.int .i64 (partitionEqual lt dk x y p).1)/\(j.cell? ⟨w.heap.size,0,none⟩=some (.func (.func lf) #[] lb)/\j.cell? ⟨w.heap.size,1,none⟩=some (.func (.func m) #[] o))/\Hid (aF s (partitionEqual lt dk x y p).2 blk (bq lf lb m o) w j)):=by
    intro dk W x y p u q Z r
    refine(MC S dk x y p W r.out.hd u q Z V).mono ?_
    rintro e j ⟨rfl,z,t⟩
    have q:aF s (partitionEqual lt dk x y p).2 blk (bq lf lb m o) w j:=⟨z,r.out.g.trans t,(t.block _ (ax.1 r.out.box).1 (by simp; omega)).trans r.out.box⟩
    exact⟨rfl,q.cells,q⟩
  have HPt:Hid (∀ (dk:Array α) (W:World) (x y p:Nat),x<=p->p<y->y<=n->Hid (aF s dk blk (bq lf lb m o) w W)->Calls prog 261 #[.agg #[.func (.func lf) #[] lb,.func (.func m) #[] o],.int .i64 x,.int .i64 y,.int .i64 p] W λe j => e = .returned (.tuple #[.int .i64 (partition lt dk x y p).1,.bool (partition lt dk x y p).2.1])/\(j.cell? ⟨w.heap.size,0,none⟩=some (.func (.func lf) #[] lb)/\j.cell? ⟨w.heap.size,1,none⟩=some (.func (.func m) #[] o))/\Hid (aF s (partition lt dk x y p).2.2 blk (bq lf lb m o) w j)):=by
    intro dk W x y p u q Z r
    refine(TJ S dk x y p W r.out.hd u q Z V).mono ?_
    rintro e j ⟨rfl,z,t⟩
    have q:aF s (partition lt dk x y p).2.2 blk (bq lf lb m o) w j:=⟨z,r.out.g.trans t,(t.block _ (ax.1 r.out.box).1 (by simp; omega)).trans r.out.box⟩
    exact⟨rfl,q.cells,q⟩
  have HIh:Hid (∀ (dk:Array α) (W:World) (x y l:Nat) (X Y:Int),X=(x:Int)->Y=(y:Int)->y-x<N->x<=y->y<=n->l<=1000000->Go.Sort.Below lt x y dk->Hid (aF s dk blk (bq lf lb m o) w W)->Calls prog 191 #[.agg #[.func (.func lf) #[] lb,.func (.func m) #[] o],.int .i64 X,.int .i64 Y,.int .i64 l] W λe j => e = .returned (.tuple #[])/\(j.cell? ⟨w.heap.size,0,none⟩=some (.func (.func lf) #[] lb)/\j.cell? ⟨w.heap.size,1,none⟩=some (.func (.func m) #[] o))/\Hid (aF s (pdq lt dk x y l true true) blk (bq lf lb m o) w j)):=by
    rintro dk W x y l X Y rfl rfl u q Z T h5 r
    refine(ih x y l dk W u r.out.hd q Z T h5).mono ?_
    rintro e j ⟨rfl,z,t⟩
    have q:aF s (pdq lt dk x y l true true) blk (bq lf lb m o) w j:=⟨z,r.out.g.trans t,(t.block _ (ax.1 r.out.box).1 (by simp; omega)).trans r.out.box⟩
    exact⟨rfl,q.cells,q⟩
  have i1:(a:Int)<=1000000:=by omega
  have i2:(b:Int)<=1000000:=by omega
  have i3:(limit:Int)<=1000000:=by omega
  have HO:=hid hO
  have Xd:Hid (∀ dk W,Hid (aF s dk blk (bq lf lb m o) w W)->dk.size=n):=λdk W h => S.size dk W h.out.hd
  clear S hd ih hO
  go_enter func191,ntmps191
  go_wp2
  go_loopg [1,2,3,8,9] (b-a) (λkx s1 s2 s3 s8 s9 wr => ∃ (f i lim:Nat) (wb wp:Bool) (dk:Array α),s1 = .int .i64 f/\s2 = .int .i64 i/\s3 = .int .i64 lim/\s8 = .bool wb/\s9 = .bool wp /\
      f<=i/\i<=n/\i-f<=kx/\kx<=b-a/\lim<=limit/\Hid (Go.Sort.Below lt f i dk)/\Hid (pdq lt dk f i lim wb wp=pdq lt d a b limit true true)/\Hid (aF s dk blk (bq lf lb m o) w wr))
  case atStart => exact⟨a,b,limit,true,true,d,rfl,rfl,rfl,rfl,rfl,hab,hb,aC _,aC _,aC _,K,rfl,H0⟩
  case round =>
    obtain⟨f,i,lim,wb,wp,dk,rfl,rfl,rfl,rfl,rfl,hab',hb',hkx,hkN,hlim,hBel,A,HS⟩:=hrel
    have c0:=HS.out.cells
    have hds:=Xd.out dk wr HS
    have j1:(f:Int)<=1000000:=by omega
    have j2:(i:Int)<=1000000:=by omega
    have j3:(lim:Int)<=1000000:=by omega
    clear H0 K
    by_cases h12:i-f<=12
    · have h12z:(i:Int)-(f:Int)<=12:=by omega
      have U:=aaw.out dk wr f i hab' hb' HS
      go_wp2_with fail
      refine U.mono ?_; rintro e w1 ⟨rfl,c1,u⟩
      clear U c0
      go_wp2
      (try simp only [Exit.inBlock,Exit.then]); refine ja (results_none rfl _ _ _) rfl ?_
      refine⟨rfl,?_,u.out.g⟩
      rw[<- A.out,pdq_small h12]
      exact u.out.hd
    · have h12z:¬ ((i:Int)-(f:Int)<=12):=by omega
      by_cases hl0:lim=0
      · subst hl0
        have U:=Yz.out dk wr f i (by omega) hb' HS
        go_wp2_with fail
        refine U.mono ?_; rintro e w1 ⟨rfl,c1,u⟩
        clear U c0
        go_wp2
        (try simp only [Exit.inBlock,Exit.then]); refine ja (results_none rfl _ _ _) rfl ?_
        refine⟨rfl,?_,u.out.g⟩
        rw[<- A.out,pdq_heap h12 rfl]
        exact u.out.hd
      · have hl0z:¬ ((lim:Int)=0):=by omega
        obtain⟨s1,B1,hc1,s2,B2,hpv,s3,B3⟩:=rd_facts (lt:=lt) (limit:=lim) (wb:=wb) (wp:=wp) HO.out partialInsertionSort_holds reverseRange_holds (show f<i by omega) (show i<=dk.size by omega) hBel.out
        have HB3:=hid B3
        clear B1 B2 B3
        go_upto_if 35 with fail
        go_cut [3]from 19 (λs3 wc => s3 = .int .i64 (rd lt dk f i lim wb wp).lim/\Hid (aF s (rd lt dk f i lim wb wp).d1 blk (bq lf lb m o) w wc))
        case first =>
          cases wb
          · have U:=aax.out dk wr f i hab' hb' HS
            go_wp2_with fail
            refine U.mono ?_; rintro e w1 ⟨rfl,c1,u⟩
            clear U c0
            go_wp2_with fail
            go_meet
            case rel =>
              refine⟨?_,u⟩
              show Value.int .i64 ((lim:Int)-1)=Value.int .i64 ((lim-1:Nat):Int)
              congr 1
              omega
          · go_wp2_with fail
            go_meet
            case rel => exact⟨rfl,HS⟩
        case rest =>
          obtain⟨rfl,Xe⟩:=hcut
          have c1:=Xe.out.cells
          clear c0
          have R:Calls prog 257 #[.agg #[.func (.func lf) #[] lb,.func (.func m) #[] o],.int .i64 f,.int .i64 i] wc λe j => e = .returned (.tuple #[.int .i64 (rd lt dk f i lim wb wp).c.1,.int .i64 (hintCode (rd lt dk f i lim wb wp).c.2)])/\(j.cell? ⟨w.heap.size,0,none⟩=some (.func (.func lf) #[] lb)/\j.cell? ⟨w.heap.size,1,none⟩=some (.func (.func m) #[] o))/\Hid (aF s (rd lt dk f i lim wb wp).d1 blk (bq lf lb m o) w j):=aay.out _ wc f i hab' hb' Xe
          go_wp2_with fail
          refine R.mono ?_; rintro e w2 ⟨rfl,c2,HS2⟩
          go_upto_if 50 with fail
          clear c1 R
          go_cut [11,12]from 19 (λs11 s12 wc => s11 = .int .i64 (rd lt dk f i lim wb wp).pivot/\s12 = .int .i64 (hintCode (rd lt dk f i lim wb wp).hint)/\Hid (aF s (rd lt dk f i lim wb wp).d2 blk (bq lf lb m o) w wc))
          case first =>
            by_cases hh:(rd lt dk f i lim wb wp).c.2 = .decreasing
            · have hcode:hintCode (rd lt dk f i lim wb wp).c.2=2:=by rw[hh]; rfl
              obtain⟨e2,epv,eht⟩:=rd_dec hh
              have I:=aaz.out (rd lt dk f i lim wb wp).d1 w2 f i (by omega) hb' HS2
              rw[<- e2]at I
              have E1:=hid epv
              have E2:=hid eht
              clear e2 epv eht
              go_wp2_with fail
              refine I.mono ?_; rintro e w3 ⟨rfl,c3,Z⟩
              clear I c2
              go_wp2_with fail
              go_meet
              case rel =>
                refine⟨?_,by rw[E2.out]; rfl,Z⟩
                rw[E1.out]
                congr 1
                omega
            · have hcode:¬ (hintCode (rd lt dk f i lim wb wp).c.2=2):=λh => hh (hintCode_two h)
              obtain⟨e2,epv,eht⟩:=rd_not hh
              have E:Hid ((rd lt dk f i lim wb wp).d2=(rd lt dk f i lim wb wp).d1/\(rd lt dk f i lim wb wp).pivot=(rd lt dk f i lim wb wp).c.1/\(rd lt dk f i lim wb wp).hint=(rd lt dk f i lim wb wp).c.2):=⟨e2,epv,eht⟩
              clear e2 epv eht
              go_wp2_with fail
              go_meet
              case rel => exact⟨by rw[E.out.2.1],by rw[E.out.2.2],by rw[E.out.1]; exact HS2⟩
          case rest =>
            obtain⟨rfl,rfl,Wx⟩:=hcut
            have c3:=Wx.out.cells
            clear c2
            go_upto_region 16 with fail
            go_cut [12,68]from 19 (λs12 s68 wx => s12 = .int .i64 (hintCode (rd lt dk f i lim wb wp).hint)/\s68 = .bool (wb&&wp&&decide ((rd lt dk f i lim wb wp).hint = .increasing))/\wx=wc)
            case first =>
              cases wb <;> cases wp <;> cases hh3:(rd lt dk f i lim _ _).hint <;>
                (have Q:=congrArg hintCode hh3
                 simp only [hintCode]at Q
                 go_wp2_with fail
                 go_meet
                 exact⟨by simp[hh3,hintCode],by simp[hh3,hintCode],rfl⟩)
            case rest =>
              obtain⟨rfl,rfl,rfl⟩:=hcut
              go_upto_if 68 with fail
              go_cut []from 19 (λwx => Hid ((rd lt dk f i lim wb wp).pi.2=false)/\Hid (aF s (rd lt dk f i lim wb wp).pi.1 blk (bq lf lb m o) w wx))
              case first =>
                cases h68:(wb&&wp&&decide ((rd lt dk f i lim wb wp).hint = .increasing))
                · have P:=rd_pi_no h68
                  have E:=hid P
                  clear P
                  go_wp2_with fail
                  go_meet
                  case rel => exact⟨(show Hid _ from by rw[E.out]; exact rfl),by rw[E.out]; exact Wx⟩
                · have P:=rd_pi_yes h68
                  have G:=HPi.out (rd lt dk f i lim wb wp).d2 wc f i (by omega) hb' Wx
                  rw[<- P]at G
                  clear P
                  go_wp2_with fail
                  refine G.mono ?_; rintro e w4 ⟨rfl,c4,T⟩
                  clear G c3
                  cases hp2:(rd lt dk f i lim wb wp).pi.2
                  · have E:=hid hp2
                    go_wp2_with fail
                    go_meet
                    case rel => exact⟨E,T⟩
                  · have E:=hid hp2
                    go_wp2_with fail
                    (try simp only [Exit.inBlock,Exit.then]); refine ja (results_none rfl _ _ _) rfl ?_
                    refine⟨rfl,?_,T.out.g⟩
                    rw[<- A.out,pdq_done h12 hl0 E.out]
                    exact T.out.hd
              case rest =>
                obtain⟨iI,TG⟩:=hcut
                have c5:=TG.out.cells
                clear c3
                go_upto_region 18 with fail
                go_cut [83]from 19 (λs83 wx => s83 = .bool (decide (f > 0) && !lt (rd lt dk f i lim wb wp).pi.1[f-1]! (rd lt dk f i lim wb wp).pi.1[(rd lt dk f i lim wb wp).pivot]!)/\Hid (aF s (rd lt dk f i lim wb wp).pi.1 blk (bq lf lb m o) w wx))
                case first =>
                  rcases Nat.eq_zero_or_pos f with ha0 | ha0
                  · have ha0z:decide ((f:Int) > 0)=false:=dJ (by omega)
                    go_wp2_with fail
                    go_meet
                    case rel => exact⟨by simp[ha0],TG⟩
                  · have ha0z:(f:Int) > 0:=by omega
                    have hl:=HL.out ((f:Int)-1) ((rd lt dk f i lim wb wp).pivot:Int) (f-1) (rd lt dk f i lim wb wp).pivot (rd lt dk f i lim wb wp).pi.1 wc (by omega) rfl (by omega) (by omega) TG
                    cases hlv:lt (rd lt dk f i lim wb wp).pi.1[f-1]! (rd lt dk f i lim wb wp).pi.1[(rd lt dk f i lim wb wp).pivot]! <;>
                      (rw[hlv]at hl
                       go_wp2_with fail
                       refine hl.mono ?_; rintro e j ⟨rfl,c6,h6⟩
                       go_wp2_with fail
                       go_meet
                       exact⟨by simp[ha0,hlv],h6⟩)
                case rest =>
                  obtain⟨rfl,ng⟩:=hcut
                  have c6:=ng.out.cells
                  clear c5
                  cases h87:(decide (f > 0) && !lt (rd lt dk f i lim wb wp).pi.1[f-1]! (rd lt dk f i lim wb wp).pi.1[(rd lt dk f i lim wb wp).pivot]!)
                  · obtain⟨mid,ap,d4,v⟩:∃ mid ap d4,partition lt (rd lt dk f i lim wb wp).pi.1 f i (rd lt dk f i lim wb wp).pivot=(mid,ap,d4):=⟨_,_,_,rfl⟩
                    obtain⟨r1,r2,r3,r4,r5,r6,r7⟩:=round_part HO.out (partition_holds lt) hpv.1 hpv.2 (show i<=(rd lt dk f i lim wb wp).pi.1.size by omega) HB3.out v
                    have L:=HPt.out (rd lt dk f i lim wb wp).pi.1 wc f i (rd lt dk f i lim wb wp).pivot hpv.1 hpv.2 hb' ng
                    rw[v]at L
                    have X:=hid v
                    have Zc:=hid h87
                    have RF:Hid (Go.Sort.Below lt f mid d4/\Go.Sort.Below lt (mid+1) i d4):=⟨r4,r5⟩
                    have R6:Hid _:=r6
                    have R7:Hid _:=r7
                    clear v r4 r5 r6 r7
                    go_wp2_with fail
                    refine L.mono ?_; rintro e w7 ⟨rfl,c7,h7⟩
                    go_upto_if 109 with fail
                    clear L c6
                    by_cases T:mid-f<i-mid
                    · have h4z:(mid:Int)-(f:Int)<(i:Int)-(mid:Int):=by omega
                      have M:=HIh.out d4 w7 f mid (rd lt dk f i lim wb wp).lim (f:Int) (mid:Int) rfl rfl (by omega) (by omega) (by omega) (aH (aH rd_lim_le hlim) F) RF.out.1 h7
                      obtain⟨pL,sL⟩:=pdq_sorts lt HO.out d4 f mid (rd lt dk f i lim wb wp).lim true true (by omega) (by omega) RF.out.1
                      have BN:Hid (Go.Sort.Below lt (mid+1) i (pdq lt d4 f mid (rd lt dk f i lim wb wp).lim true true)):=(R6.out _ pL sL).1
                      clear pL sL
                      go_wp2_with fail
                      refine M.mono ?_; rintro e w8 ⟨rfl,c8,h8⟩
                      clear M c7
                      go_wp2_with fail
                      go_roundg (i-(mid+1))
                      case measure => omega
                      case rel =>
                        refine⟨mid+1,i,(rd lt dk f i lim wb wp).lim,decide (mid-f >= (i-f) / 8),ap,pdq lt d4 f mid (rd lt dk f i lim wb wp).lim true true,by simp,rfl,rfl,?_,rfl,by omega,by omega,aC _,by omega,aH rd_lim_le hlim,BN,?_,h8⟩
                        · exact congrArg Value.bool (eighth (by omega) (by omega))
                        · have v:=X.out
                          show _=_
                          rw[<- A.out,pdq_left h12 hl0 iI.out Zc.out (by rw[v]; exact⟨r1,r2⟩) (by rw[v]; exact T),v]
                    · have h4z:¬ ((mid:Int)-(f:Int)<(i:Int)-(mid:Int)):=by omega
                      have M:=HIh.out d4 w7 (mid+1) i (rd lt dk f i lim wb wp).lim ((mid:Int)+1) (i:Int) (by omega) rfl (by omega) (by omega) (by omega) (aH (aH rd_lim_le hlim) F) RF.out.2 h7
                      obtain⟨pL,sL⟩:=pdq_sorts lt HO.out d4 (mid+1) i (rd lt dk f i lim wb wp).lim true true (by omega) (by omega) RF.out.2
                      have BN:Hid (Go.Sort.Below lt f mid (pdq lt d4 (mid+1) i (rd lt dk f i lim wb wp).lim true true)):=(R7.out _ pL sL).1
                      clear pL sL
                      go_wp2_with fail
                      refine M.mono ?_; rintro e w8 ⟨rfl,c8,h8⟩
                      clear M c7
                      go_wp2_with fail
                      go_roundg (mid-f)
                      case measure => omega
                      case rel =>
                        refine⟨f,mid,(rd lt dk f i lim wb wp).lim,decide (i-mid >= (i-f) / 8),ap,pdq lt d4 (mid+1) i (rd lt dk f i lim wb wp).lim true true,rfl,rfl,rfl,?_,rfl,by omega,by omega,aC _,by omega,aH rd_lim_le hlim,BN,?_,h8⟩
                        · exact congrArg Value.bool (eighth (by omega) (by omega))
                        · have v:=X.out
                          show _=_
                          rw[<- A.out,pdq_right h12 hl0 iI.out Zc.out (by rw[v]; exact⟨r1,r2⟩) (by rw[v]; exact T),v]
                  · have C:=h87
                    simp only [Bool.and_eq_true,decide_eq_true_eq,Bool.not_eq_true']at C
                    obtain⟨mid,d4,v⟩:∃ mid d4,partitionEqual lt (rd lt dk f i lim wb wp).pi.1 f i (rd lt dk f i lim wb wp).pivot=(mid,d4):=⟨_,_,rfl⟩
                    obtain⟨r1,r2,r3,r4,_⟩:=round_eq HO.out (partitionEqual_holds lt) C.1 hpv.1 hpv.2 (show i<=(rd lt dk f i lim wb wp).pi.1.size by omega) HB3.out C.2 v
                    have H:=HPe.out (rd lt dk f i lim wb wp).pi.1 wc f i (rd lt dk f i lim wb wp).pivot hpv.1 hpv.2 hb' ng
                    rw[v]at H
                    have X:=hid v
                    have Zc:=hid h87
                    have BN:=hid r4
                    clear v r4 C
                    go_wp2_with fail
                    refine H.mono ?_; rintro e w7 ⟨rfl,c7,h7⟩
                    clear H c6
                    go_wp2_with fail
                    go_roundg (i-mid)
                    case measure => omega
                    case rel =>
                      have v:=X.out
                      exact⟨mid,i,(rd lt dk f i lim wb wp).lim,wb,wp,d4,rfl,rfl,rfl,rfl,rfl,r2,hb',aC _,by omega,aH rd_lim_le hlim,BN,(show Hid _ from by rw[<- A.out,pdq_eq h12 hl0 iI.out Zc.out (by rw[v]; exact⟨r1,r2⟩),v]; exact rfl),h7⟩
end
section
open Go.Joins Go.Shelf Go.Lib
variable{blk n cp B cap:Nat}{d:Array Nat}{W:World}
def lS(x:Nat):Value:= .int .i64 (x:Int)
structure zV(blk n cp:Nat)(d:Array Nat)(W:World):Prop where
 size:d.size=n
 row:Holds lS W blk 0 d
 lt:blk<W.heap.size
 shape:∃cur,W.heap[blk]?=some (.cells cur 3 (0,0))/\cur.size=cp
theorem zV.kept{f:World}(h:zV blk n cp d W)(b:blk<B)(a:Go.RowKit.Below B W f):zV blk n cp d f:=
 ⟨h.size,λj e=>⟨(a.cell (p:=⟨blk,0+j,none⟩) b).trans (h.row j e).1,(a.frozen (p:=⟨blk,0+j,none⟩) b).trans (h.row j e).2⟩,aR h.lt a.size,h.shape.imp λ_ c=>⟨(a.block _ b).trans c.1,c.2⟩⟩
theorem TM:∃i,prog.info? 84=some i/\i.desc=.slice 3:=by
 have h:(prog.info? 84).map (λi=>i.desc)=some (.slice 3):=by kernel_rfl
 obtain⟨i,a,b⟩:=Option.map_eq_some_iff.1 h;exact⟨i,a,b⟩
theorem QS:∃i,prog.info? 3=some i/\i.size=1/\i.hasPointers=false/\i.bytes=8:=by
 have h:(prog.info? 3).map (λi=>(i.size,i.hasPointers,i.bytes))=some (1,false,8):=by kernel_rfl
 obtain⟨i,e,f⟩:=Option.map_eq_some_iff.1 h
 injection f with a b
 injection b with b c
 exact⟨i,e,a,b,c⟩
theorem WB(w:World):(Extern.Rtype.kind 3).run prog w=.ok 2 w:=by kernel_rfl
theorem TN(w:World):(isAgg 3).run prog w=.ok false w:=Tryz.isAgg3 w
theorem QT(args:Array Value)(W:World):(callFunc 203 args).run prog W=((Extern.ReflectliteSwapper.swap true args).run prog W).andThen λv a=>.ok (.value v) a:=
 run_callFunc_extern func203 (by kernel_rfl) (by kernel_rfl) (by kernel_rfl) (e:=Extern.ReflectliteSwapper.swap true) (by kernel_rfl) args W
theorem ME(h:zV blk n cp d W)(i j:Nat)(hi:i<n)(g:j<n):
  ∃c,(callFunc 203 (#[.int .i64 i,.int .i64 j]++ #[.slice (some ⟨blk,0,none⟩) n cap,typeHandle prog 3])).run prog W=.ok (.value (.tuple #[])) c/\zV blk n cp (swp d i j) c/\W.grownBy c (some blk):=by
 obtain⟨q,b,r,_,_⟩:=QS;have l:=swapSwaps_of_literal (P:=prog) true 203 QT 3 q b r TN lS (λ_=>rfl) blk 0 n cap W d h.row h.size i j hi g;have m:putRow lS W blk 0 d=W:=putRow_self lS W blk 0 d h.row;have f:=putRow_swp lS W blk 0 d i j (by rw[h.size];exact hi) (by rw[h.size];exact g);rw[m]at f;rw[f]at l;refine⟨_,l,⟨by rw[swp_size];exact h.size,holds_putRow lS W blk 0 d (swp d i j) h.row (swp_size _ _ _),by rw[size_putRow];exact h.lt,?_⟩,?_⟩
 .obtain⟨cur,p,o⟩:=h.shape;refine⟨putCells lS 0 (swp d i j) cur,?_,by simp[putCells,o]⟩;simp[putRow,mapBlock,Array.getElem?_modify,p,onCells]
 .refine⟨rfl,rfl,rfl,by simp,λk hk a=>?_⟩
  have:blk≠k:=λe=>a (by rw[e])
  simp[putRow,mapBlock,Array.getElem?_modify,this]
def uE(n:Nat):Nat:=if n=0 then 199 else if n=1 then 200 else 203
structure Tc(p:Option Addr)(n cap:Nat)(sb:Array Value):Prop where
 few:n<=1->sb=#[]
 more:1<n->sb=#[.slice p n cap,typeHandle prog 3]
theorem QU(W:World):(callFunc 200 #[.int .i64 0,.int .i64 0]).run prog W=.ok (.value (.tuple #[])) W:=by
 rw[run_callFunc_extern func200 (by kernel_rfl) (by kernel_rfl) (by kernel_rfl) (e:=λ| #[.int .i64 0,.int .i64 0]=>pure (.tuple #[])|_=>Extern.ReflectliteSwapper.outOfRange) (by kernel_rfl)];rfl
theorem MF(d:Array Nat)(h:d.size=1):swp d 0 0=d:=by
 apply Array.ext
 .rw[swp_size]
 .intro k a c;have e:=swp_get d (i:=0) (j:=0) (by omega) (by omega) k
  have b:k=0:=by omega
  subst b;rw[if_pos rfl]at e;rw[getElem!_pos _ 0 a,getElem!_pos _ 0 c]at e;exact e
theorem Mc{b:Array Value}(c:Tc (some ⟨blk,0,none⟩) n cap b)(h:zV blk n cp d W)(i j:Nat)(hi:i<n)(e:j<n):
  ∃a,(callFunc (uE n) (#[.int .i64 i,.int .i64 j]++b)).run prog W=.ok (.value (.tuple #[])) a/\zV blk n cp (swp d i j) a/\W.grownBy a (some blk):=by
 by_cases h0:n=0
 .omega
 .by_cases h1:n=1
  .obtain rfl:i=0:=by omega
   obtain rfl:j=0:=by omega
   refine⟨W,?_,?_,⟨rfl,rfl,rfl,aC _,λ_ _ _=>rfl⟩⟩
   .rw[show uE n=200 by simp[uE,h1],c.few (by omega)];exact QU W
   .rw[MF d (by rw[h.size];exact h1)];exact h
  .rw[show uE n=203 by simp[uE,h0,h1],c.more (by omega)];exact ME h i j hi e
theorem FV(n:Nat)(hn:n<=1000000)(w:World):Calls prog 190 #[.int .u64 (n:Int)] w λe a=>e=.returned (.int .i64 (bitsLen n:Nat))/\a=w:=by
 have L:=Tryz.np2;have h:=Any.bits_Len (LaysGg.n13.bits (P:=prog) (ρ:=Tryz.np2_ren) { L with}) (n:Int) w (by omega) (by omega);rw[Int.toNat_natCast,bitLen_eq _ (by omega)]at h;exact h
theorem Fh{lt:Nat->Nat->Bool}{lf:Nat}{lb:Array Value}{Hd:Array Nat->World->Prop}(p:Option Addr)(S:∀sb,Tc p n cap sb->si lt B blk n lf lb (uE n) sb Hd)(hO:SWO lt)(d:Array Nat)(w:World)(hd:Hd d w)(hB:B<=w.heap.size)(hn:n<=1000000):
  Calls prog 117 #[.iface 84 (.slice p n cap),.func (.func lf) #[] lb] w λe w'=>e=.returned (.tuple #[])/\Hd (pdq lt d 0 n (bitsLen n) true true) w'/\w.grownBy w' (some blk):=by
 obtain⟨i,hi,hdi⟩:=TM;obtain⟨ie,hie,hsz,hpt,hby⟩:=QS
 have hK:swapperK n ie 2=if n=0 then 1 else if n=1 then 2 else 5:=by
  unfold swapperK
  by_cases h0:n=0
  .simp[h0]
  .by_cases h1:n=1
   .simp[h1]
   .simp[h0,h1,hpt,hby]
 have hf:prog.funcs.findIdx? (·.name== "internal/reflectlite" ++ ".Swapper$" ++toString (swapperK n ie 2))=some (uE n):=by
  rw[hK]
  by_cases h0:n=0
  .simp only[h0,if_true,uE];kernel_rfl
  .by_cases h1:n=1
   .rw[if_neg h0,if_pos h1];simp only[uE,h1];kernel_rfl
   .rw[if_neg h0,if_neg h1];simp only[uE,h0,h1,if_false];kernel_rfl
 obtain⟨sb,hsb⟩:∃sb,sb=(if swapperK n ie 2<=2 then(#[]:Array Value)else#[.slice p n cap,typeHandle prog 3]):=⟨_,rfl⟩
 have hL:Tc p n cap sb:=by
  rw[hK]at hsb;refine⟨λhn1=>?_,λhn1=>?_⟩
  .rw[hsb,if_pos]
   by_cases h0:n=0
   .simp[h0]
   .simp[show n=1 by omega]
  .rw[hsb,if_neg];simp[show ¬n=0 by omega,show ¬n=1 by omega]
 have hv:=run_valueOf_slice (P:=prog) 84 3 i hi hdi p n cap w
 have hs:=λw=>run_swapper_slice (P:=prog) 84 3 i ie hi hdi hie 2 WB p n cap (uE n) hf w
 have hl:=λa w ha=>run_valueLen_slice (P:=prog) 84 3 i hi hdi (by kernel_rfl) a p n cap w ha
 have hgs:prog.globals.size=12:=by kernel_rfl
 rw[<-hsb]at hs;simp only[typeHandle,hgs]at hv hl;have S1:=S sb hL;have hsd:=S1.size d w hd
 have hP:Hid (∀W:World,Hd d W->Calls prog 191 #[.agg #[.func (.func lf) #[] lb,.func (.func (uE n)) #[] sb],.int .i64 0,.int .i64 (n:Int),.int .i64 (bitsLen n:Nat)] W λe w'=>e=.returned (.tuple #[])/\Hd (pdq lt d 0 n (bitsLen n) true true) w'/\W.grownBy w' (some blk)):=λW hW=>
  IY S1 hO hn (n+1) 0 n (bitsLen n) d W (by omega) hW (by omega) (aC _) (aH ((bitsLen_le_iff n 62).2 (by omega)) (by omega)) (Or.inl rfl)
 have hK2:Hid (∀W:World,Go.RowKit.Below w.heap.size w W->Hd d W):=λW hW=>S1.kept d w W hd (hW.mono hB)
 have hN:=λW=>FV n hn W
 have hwr:IntKind.u64.wrap (n:Int)=n:=by simp[IntKind.wrap,IntKind.bits,IntKind.signed];omega
 clear hf hK hsb hgs S S1 hd hL hsd;go_enter func117,ntmps117;go_wp2
 rw[run_callFunc_extern func123 (by kernel_rfl) (by kernel_rfl) (by kernel_rfl) (e:=λargs=>Extern.ReflectliteValue.unpack (args.getD 0 (.tuple #[]))) (by kernel_rfl),
  show Sem.run prog ((λargs:Array Value=>Extern.ReflectliteValue.unpack (args.getD 0 (.tuple #[]))) #[.iface 84 (.slice p n cap)]) w=_ from hv]
 simp only[Result.andThen];rw[Oper.upon_value];go_wp2;rw[run_callFunc_extern func124 (by kernel_rfl) (by kernel_rfl) (by kernel_rfl) (e:=Extern.ReflectliteSwapper.swapper "internal/reflectlite" (Extern.ReflectliteValue.valueError "Swapper")) (by kernel_rfl),hs];simp only[Result.andThen];rw[Oper.upon_value];go_wp2
 rw[run_callFunc_extern func126 (by kernel_rfl) (by kernel_rfl) (by kernel_rfl) (e:=Extern.ReflectliteValue.method (Extern.ReflectliteValue.valueError "reflectlite.Value.Len" 0) Extern.ReflectliteValue.len) (by kernel_rfl),
  hl _ _ (by simp)]
 simp only[Result.andThen];rw[Oper.upon_value];go_wp2_with fail;refine(hN _).mono ?_;rintro e w' ⟨rfl,rfl⟩;go_wp2_with fail;refine(hP.out _ ?_).mono ?_
 .exact hK2.out _ (fK _ _ _)
 .rintro e w' ⟨rfl,h1,h4⟩;go_wp2
  go_end0
  exact⟨rfl,h1,World.grownBy.trans ((iV _ _ _).trans (iV _ _ _)) h4⟩
end
end Go.Proofs.YthfpipieboophaaGreatDoor
