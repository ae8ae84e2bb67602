import Derived.Test.YthfpipieboophaaGreatDoorZLde
import Derived.Test.YthfpipieboophaaGreatDoorZSvf
namespace Go.Proofs.YthfpipieboophaaGreatDoor
set_option maxRecDepth 100000
set_option maxHeartbeats 40000000
open Go.Proofs.Tryz Go.RowKit Go.Sort
section
open Go.Joins
theorem KF(n:Int)(w:World)(h:¬(0<=n/\n<=3)):Calls prog 184 #[.int .i64 n] w λe a=>e=.returned (.bool false)/\a=w:=by
 have d0:(n==0)=false:=by simp;omega
 have d1:(n==1)=false:=by simp;omega
 have d2:(n==2)=false:=by simp;omega
 have d3:(n==3)=false:=by simp;omega
 clear h;go_enter func184,ntmps184;go_wp2;go_ret;exact⟨rfl,rfl⟩
theorem adA(lo hi mode:Int)(w:World)(h:¬dn lo hi mode):Calls prog 109 #[.agg #[.int .i64 lo,.int .i64 hi,.int .i64 mode]] w λe a=>∃c,e=.returned (.iface 24 (.int .i64 c))/\a=w.alloc (.cells #[.int .i64 lo,.int .i64 hi,.int .i64 mode] 45):=by
 by_cases h1: -1048576<=lo/\lo<=1048576
 .have d1:Hid (decide (-1048576<=lo/\lo<=1048576)=true):=by show _=_;simp;omega
  by_cases h2: -1048576<=hi/\hi<=1048576
  .have d2:Hid (decide (-1048576<=hi/\hi<=1048576)=true):=by show _=_;simp;omega
   by_cases h3:hi<lo
   .clear h h1 h2;go_enter func109,ntmps109
    go_wp2_with (first
     |(go_at_call 183;refine(kz _ _).mono ?_;rintro e a ⟨rfl,rfl⟩;first|rw[d1.out]|rw[d2.out])
     |fail)
    go_ret;exact⟨_,rfl,rfl⟩
   .have b:¬(0<=mode/\mode<=3):=λb=>h ⟨h1,h2,by omega,b⟩
    clear h h1 h2;go_enter func109,ntmps109
    go_wp2_with (first
     |(go_at_call 183;refine(kz _ _).mono ?_;rintro e a ⟨rfl,rfl⟩;first|rw[d1.out]|rw[d2.out])
     |(go_at_call 184;refine(KF _ _ b).mono ?_;rintro e a ⟨rfl,rfl⟩)
     |fail)
    go_ret;exact⟨_,rfl,rfl⟩
  .have d2:Hid (decide (-1048576<=hi/\hi<=1048576)=false):=by show _=_;simp;omega
   clear h h1 h2;go_enter func109,ntmps109
   go_wp2_with (first
    |(go_at_call 183;refine(kz _ _).mono ?_;rintro e a ⟨rfl,rfl⟩;first|rw[d1.out]|rw[d2.out])
    |fail)
   go_ret;exact⟨_,rfl,rfl⟩
 .have d1:Hid (decide (-1048576<=lo/\lo<=1048576)=false):=by show _=_;simp;omega
  clear h h1;go_enter func109,ntmps109
  go_wp2_with (first
   |(go_at_call 183;refine(kz _ _).mono ?_;rintro e a ⟨rfl,rfl⟩;rw[d1.out])
   |fail)
  go_ret;exact⟨_,rfl,rfl⟩
theorem adY(lo hi mode:Int)(w:World)(h:¬dn lo hi mode):Calls prog 48 #[.agg #[.int .i64 lo,.int .i64 hi,.int .i64 mode]] w λe b=>∃c,e=.returned (.tuple #[.pointer none,.iface 24 (.int .i64 c)])/\Below w.heap.size w b:=by
 have a:=λW=>adA lo hi mode W h
 have d:Hid (Below w.heap.size w ((w.alloc (.cells #[.int .i64 lo,.int .i64 hi,.int .i64 mode] 45)).alloc (.cells #[.int .i64 lo,.int .i64 hi,.int .i64 mode] 45))):=fK _ _ _;clear h;go_enter func48,ntmps48
 go_wp2_with (first
  |(go_at_call 109;refine(a _).mono ?_;rintro e b ⟨c,rfl,rfl⟩;have hq:=GG c)
  |fail)
 exact ja (v:= .tuple #[.pointer none,.iface 24 (.int .i64 c)]) (by simp[results,Tryz.results48,go_sem]) rfl ⟨c,rfl,d.out⟩
theorem adZ(lo hi mode:Int)(w:World)(h:¬dn lo hi mode):Calls prog 13 #[.agg #[.int .i64 lo,.int .i64 hi,.int .i64 mode]] w λe i=>∃c,e=.returned (.tuple #[.pointer none,.iface 24 (.int .i64 c)])/\Below w.heap.size w i:=by
 have b:=λW=>adY lo hi mode W h
 have f:Hid (Below w.heap.size w (w.alloc (uY lo hi mode))):=fC _ _;clear h;go_enter func13,ntmps13
 go_wp2_with (first
  |(go_at_call 48;refine(b _).mono ?_;rintro e g ⟨c,rfl,a⟩;have hq:=GG c;have d:Hid (Below w.heap.size w g):=f.out.trans (a.mono f.out.size);clear a)
  |fail)
 exact ja (v:= .tuple #[.pointer none,.iface 24 (.int .i64 c)]) (by simp[results,Tryz.results13,go_sem]) rfl ⟨c,rfl,d.out⟩
theorem ad1(k:Int)(w:World):(binOp .eql 29 (.iface 24 (.int .i64 k)) .nilIface).run prog w=.ok (.bool false) w:=by kernel_rfl
theorem adC(g off c:Nat)(a b m:Int)(w:World)(j:g<w.heap.size)(r:w.cell? ⟨g,off,none⟩=some (.int .i64 a))(t:w.cell? ⟨g,off+1,none⟩=some (.int .i64 b))(q:w.cell? ⟨g,off+2,none⟩=some (.int .i64 m))(h:¬dn a b m):
  Calls prog 93 #[.agg #[.string ⟨#[112,108,97,110]⟩,.slice (some ⟨g,off,none⟩) 3 c]] w λe f=>e=.returned (.tuple #[.pointer none,.bool false])/\Below w.heap.size w f:=by
 have l:Hid (∀W,Below w.heap.size w W->W.cell? ⟨w.heap.size,1,none⟩=some (.slice (some ⟨g,off,none⟩) 3 c)->Calls prog 13 #[.agg #[.int .i64 a,.int .i64 b,.int .i64 m]] W λe f=>∃k,e=.returned (.tuple #[.pointer none,.iface 24 (.int .i64 k)])/\(f.cell? ⟨w.heap.size,1,none⟩=some (.slice (some ⟨g,off,none⟩) 3 c)/\f.cell? ⟨g,off,none⟩=some (.int .i64 a)/\f.cell? ⟨g,off+1,none⟩=some (.int .i64 b)/\f.cell? ⟨g,off+2,none⟩=some (.int .i64 m))/\Hid (Below w.heap.size w f)):=by
  intro W o i;refine(adZ a b m W h).mono ?_;rintro e f ⟨k,rfl,n⟩;have d:=o.trans (n.mono o.size);exact⟨k,rfl,⟨(n.cell (p:=⟨w.heap.size,1,none⟩) (World.block_lt_of_cell? _ _ i)).trans i,(d.cell (p:=⟨g,off,none⟩) j).trans r,(d.cell (p:=⟨g,off+1,none⟩) j).trans t,(d.cell (p:=⟨g,off+2,none⟩) j).trans q⟩,d⟩
 have u:Hid (Below w.heap.size w (w.alloc (.cells #[.string ⟨#[112,108,97,110]⟩,.slice (some ⟨g,off,none⟩) 3 c] 169)).drew):=(fC _ _).drew;clear h;go_enter func93,ntmps93;go_wp2_with fail
 go_region_held3 (λW=>W.cell? ⟨w.heap.size,1,none⟩=some (.slice (some ⟨g,off,none⟩) 3 c)/\W.cell? ⟨g,off,none⟩=some (.int .i64 a)/\W.cell? ⟨g,off+1,none⟩=some (.int .i64 b)/\W.cell? ⟨g,off+2,none⟩=some (.int .i64 m)) (first|(go_keep;done)|fail) (first
  |(go_at_call 13;refine(l.out _ u.out (by go_keep)).mono ?_;rintro e w2 ⟨k,rfl,hc2,s⟩)
  |fail)
 have hq:=ad1 k;go_wp2
 go_region
 go_wp2;refine ja (v:= .tuple #[.pointer none,.bool false]) (by simp[results,Tryz.results93,go_sem]) rfl ⟨rfl,s.out.drew⟩
theorem acP(hd:List UInt8)(g off n c:Nat)(w:World)(h:hd≠[112,108,97,110]):
  Calls prog 93 #[.agg #[.string (bW hd),.slice (some ⟨g,off,none⟩) n c]] w λe a=>e=.returned (.tuple #[.pointer none,.bool false])/\Below w.heap.size w a:=by
 have hne:(hd==[112,108,97,110])=false:=by simpa using h
 have hne2:(hd !=[112,108,97,110])=true:=by simpa using h
 have b:Hid (Below w.heap.size w (w.alloc (.cells #[.string (bW hd),.slice (some ⟨g,off,none⟩) n c] 169))):=fC _ _;clear h;go_enter func93,ntmps93;go_wp2;exact ja (v:= .tuple #[.pointer none,.bool false]) (by simp[results,Tryz.results93,go_sem]) rfl ⟨rfl,b.out⟩
end
section
open Go.Joins
theorem acn(be g off c:Nat)(P:Bool->World->Prop)(w:World)
  (H:∀W,Below w.heap.size w W->Calls prog 162 #[.pointer (some ⟨be,0,none⟩),.slice (some ⟨g,off,none⟩) 3 c] W λe a=>∃b,e=.returned (.bool b)/\P b a):
  Calls prog 92 #[.pointer (some ⟨be,0,none⟩),.agg #[.string ⟨#[102,101,100]⟩,.slice (some ⟨g,off,none⟩) 3 c]] w λe a=>∃b,e=.returned (.bool b)/\P b a:=by
 have f:Hid (∀W,Below w.heap.size w W->Calls prog 162 #[.pointer (some ⟨be,0,none⟩),.slice (some ⟨g,off,none⟩) 3 c] W λe a=>∃b,e=.returned (.bool b)/\Hid (P b a)):=H;have h:Hid (Below w.heap.size w (w.alloc (.cells #[.string ⟨#[102,101,100]⟩,.slice (some ⟨g,off,none⟩) 3 c] 169))):=fC _ _;clear H;go_enter func92,ntmps92
 go_wp2_with (first
  |(go_at_call 162;refine(f.out _ h.out).mono ?_;rintro e w2 ⟨b,rfl,d⟩)
  |fail)
 go_ret;exact⟨b,rfl,d.out⟩
theorem abF(be g off c:Nat)(P:Bool->World->Prop)(w:World)
  (H:∀W,Below w.heap.size w W->Calls prog 163 #[.pointer (some ⟨be,0,none⟩),.slice (some ⟨g,off,none⟩) 2 c] W λe a=>∃b,e=.returned (.bool b)/\P b a):
  Calls prog 92 #[.pointer (some ⟨be,0,none⟩),.agg #[.string ⟨#[109,97,114,107,115]⟩,.slice (some ⟨g,off,none⟩) 2 c]] w λe a=>∃b,e=.returned (.bool b)/\P b a:=by
 have f:Hid (∀W,Below w.heap.size w W->Calls prog 163 #[.pointer (some ⟨be,0,none⟩),.slice (some ⟨g,off,none⟩) 2 c] W λe a=>∃b,e=.returned (.bool b)/\Hid (P b a)):=H;have h:Hid (Below w.heap.size w (w.alloc (.cells #[.string ⟨#[109,97,114,107,115]⟩,.slice (some ⟨g,off,none⟩) 2 c] 169))):=fC _ _;clear H;go_enter func92,ntmps92
 go_wp2_with (first
  |(go_at_call 163;refine(f.out _ h.out).mono ?_;rintro e w2 ⟨b,rfl,d⟩)
  |fail)
 go_ret;exact⟨b,rfl,d.out⟩
theorem abV(n:lF)(be g off:Nat)(k t v:Int)(P:Bool->World->Prop)(w:World)(h:g<w.heap.size)
  (l:w.cell? ⟨g,off,none⟩=some (.int .i64 k)) (m:w.cell? ⟨g,off+1,none⟩=some (.int .i64 t)) (j:w.cell? ⟨g,off+2,none⟩=some (.int .i64 v))
  (H:∀W,Below w.heap.size w W->Calls prog 166 #[.pointer (some ⟨be,0,none⟩),.agg #[.int .i64 k,.int .i64 k,.int .i64 t,.int .i64 v,.int .i64 0,.int .i64 0,.int .i64 0,.bool true,.bool false]] W λe a=>∃b,e=.returned (.bool b)/\P b a):
  Calls prog 92 #[.pointer (some ⟨be,0,none⟩),.agg #[.string ⟨#[111,117,116,32,49]⟩,.slice (some ⟨g,off,none⟩) 3 3]] w λe a=>∃b,e=.returned (.bool b)/\P b a:=by
 have q:Hid (∀W,Hid (Below w.heap.size w W)->Calls prog 166 #[.pointer (some ⟨be,0,none⟩),.agg #[.int .i64 k,.int .i64 k,.int .i64 t,.int .i64 v,.int .i64 0,.int .i64 0,.int .i64 0,.bool true,.bool false]] W λe a=>∃b,e=.returned (.bool b)/\Hid (P b a)):=λW f=>H W f.out
 have u:Hid (∀W,Hid (Below w.heap.size w W)->Calls prog 165 #[.slice (some ⟨g,off,none⟩) 3 3] W λe a=>e=.returned (.agg #[.int .i64 k,.int .i64 t,.int .i64 v])/\Hid (Below w.heap.size w a)):=by
  intro W f;have d:=f.out;refine(n g off 3 3 k t v W (aR h d.size) (by omega) (by omega) ((d.cell (p:=⟨g,off,none⟩) h).trans l) ((d.cell (p:=⟨g,off+1,none⟩) h).trans m) ((d.cell (p:=⟨g,off+2,none⟩) h).trans j)).mono ?_;rintro e a ⟨rfl,c⟩;exact⟨rfl,d.trans (c.mono d.size)⟩
 have o:Hid (∀W,Hid (Below w.heap.size w W)->Calls prog 167 #[.int .i64 0,.agg #[.int .i64 k,.int .i64 t,.int .i64 v]] W λe a=>e=.returned (.agg #[.int .i64 k,.int .i64 k,.int .i64 t,.int .i64 v,.int .i64 0,.int .i64 0,.int .i64 0,.bool true,.bool false])/\Hid (Below w.heap.size w a)):=by
  intro W f;refine(um k t v W).mono ?_;rintro e a ⟨rfl,c⟩;exact⟨rfl,f.out.trans (c.mono f.out.size)⟩
 have s:Hid (Below w.heap.size w (w.alloc (.cells #[.string ⟨#[111,117,116,32,49]⟩,.slice (some ⟨g,off,none⟩) 3 3] 169))):=fC _ _;clear H n l m j;go_enter func92,ntmps92
 go_wp2_with (first
  |(go_at_call 166;refine(q.out _ i).mono ?_;rintro e w4 ⟨b,rfl,r⟩)
  |(go_at_call 167;refine(o.out _ c).mono ?_;rintro e w3 ⟨rfl,i⟩)
  |(go_at_call 165;refine(u.out _ s).mono ?_;rintro e w2 ⟨rfl,c⟩)
  |fail)
 go_ret;exact⟨b,rfl,r.out⟩
theorem abG(n:lF)(be g off:Nat)(k t v:Int)(P:Bool->World->Prop)(w:World)(h:g<w.heap.size)
  (l:w.cell? ⟨g,off,none⟩=some (.int .i64 k)) (m:w.cell? ⟨g,off+1,none⟩=some (.int .i64 t)) (j:w.cell? ⟨g,off+2,none⟩=some (.int .i64 v))
  (H:∀W,Below w.heap.size w W->Calls prog 166 #[.pointer (some ⟨be,0,none⟩),.agg #[.int .i64 k,.int .i64 0,.int .i64 0,.int .i64 0,.int .i64 k,.int .i64 t,.int .i64 v,.bool false,.bool true]] W λe a=>∃b,e=.returned (.bool b)/\P b a):
  Calls prog 92 #[.pointer (some ⟨be,0,none⟩),.agg #[.string ⟨#[111,117,116,32,50]⟩,.slice (some ⟨g,off,none⟩) 3 3]] w λe a=>∃b,e=.returned (.bool b)/\P b a:=by
 have q:Hid (∀W,Hid (Below w.heap.size w W)->Calls prog 166 #[.pointer (some ⟨be,0,none⟩),.agg #[.int .i64 k,.int .i64 0,.int .i64 0,.int .i64 0,.int .i64 k,.int .i64 t,.int .i64 v,.bool false,.bool true]] W λe a=>∃b,e=.returned (.bool b)/\Hid (P b a)):=λW f=>H W f.out
 have u:Hid (∀W,Hid (Below w.heap.size w W)->Calls prog 165 #[.slice (some ⟨g,off,none⟩) 3 3] W λe a=>e=.returned (.agg #[.int .i64 k,.int .i64 t,.int .i64 v])/\Hid (Below w.heap.size w a)):=by
  intro W f;have d:=f.out;refine(n g off 3 3 k t v W (aR h d.size) (by omega) (by omega) ((d.cell (p:=⟨g,off,none⟩) h).trans l) ((d.cell (p:=⟨g,off+1,none⟩) h).trans m) ((d.cell (p:=⟨g,off+2,none⟩) h).trans j)).mono ?_;rintro e a ⟨rfl,c⟩;exact⟨rfl,d.trans (c.mono d.size)⟩
 have o:Hid (∀W,Hid (Below w.heap.size w W)->Calls prog 167 #[.int .i64 1,.agg #[.int .i64 k,.int .i64 t,.int .i64 v]] W λe a=>e=.returned (.agg #[.int .i64 k,.int .i64 0,.int .i64 0,.int .i64 0,.int .i64 k,.int .i64 t,.int .i64 v,.bool false,.bool true])/\Hid (Below w.heap.size w a)):=by
  intro W f;refine(qH k t v W).mono ?_;rintro e a ⟨rfl,c⟩;exact⟨rfl,f.out.trans (c.mono f.out.size)⟩
 have s:Hid (Below w.heap.size w (w.alloc (.cells #[.string ⟨#[111,117,116,32,50]⟩,.slice (some ⟨g,off,none⟩) 3 3] 169))):=fC _ _;clear H n l m j;go_enter func92,ntmps92
 go_wp2_with (first
  |(go_at_call 166;refine(q.out _ i).mono ?_;rintro e w4 ⟨b,rfl,r⟩)
  |(go_at_call 167;refine(o.out _ c).mono ?_;rintro e w3 ⟨rfl,i⟩)
  |(go_at_call 165;refine(u.out _ s).mono ?_;rintro e w2 ⟨rfl,c⟩)
  |fail)
 go_ret;exact⟨b,rfl,r.out⟩
theorem abX(n:lF)(be g off:Nat)(k t v h t2 f:Int)(P:Bool->World->Prop)(w:World)(i:g<w.heap.size)
  (z:w.cell? ⟨g,off,none⟩=some (.int .i64 k)) (A:w.cell? ⟨g,off+1,none⟩=some (.int .i64 t)) (u:w.cell? ⟨g,off+2,none⟩=some (.int .i64 v))
  (y:w.cell? ⟨g,off+3,none⟩=some (.int .i64 h)) (x:w.cell? ⟨g,off+4,none⟩=some (.int .i64 t2)) (l:w.cell? ⟨g,off+5,none⟩=some (.int .i64 f))
  (H:∀W,Below w.heap.size w W->Calls prog 166 #[.pointer (some ⟨be,0,none⟩),.agg #[.int .i64 k,.int .i64 k,.int .i64 t,.int .i64 v,.int .i64 h,.int .i64 t2,.int .i64 f,.bool true,.bool true]] W λe c=>∃b,e=.returned (.bool b)/\P b c):
  Calls prog 92 #[.pointer (some ⟨be,0,none⟩),.agg #[.string ⟨#[111,117,116,32,51]⟩,.slice (some ⟨g,off,none⟩) 6 6]] w λe c=>∃b,e=.returned (.bool b)/\P b c:=by
 have C:Hid (∀W,Hid (Below w.heap.size w W)->Calls prog 166 #[.pointer (some ⟨be,0,none⟩),.agg #[.int .i64 k,.int .i64 k,.int .i64 t,.int .i64 v,.int .i64 h,.int .i64 t2,.int .i64 f,.bool true,.bool true]] W λe c=>∃b,e=.returned (.bool b)/\Hid (P b c)):=λW j=>H W j.out
 have o:Hid (∀W,Hid (Below w.heap.size w W)->Calls prog 165 #[.slice (some ⟨g,off,none⟩) 6 6] W λe c=>e=.returned (.agg #[.int .i64 k,.int .i64 t,.int .i64 v])/\Hid (Below w.heap.size w c)):=by
  intro W j;have d:=j.out;refine(n g off 6 6 k t v W (aR i d.size) (by omega) (by omega) ((d.cell (p:=⟨g,off,none⟩) i).trans z) ((d.cell (p:=⟨g,off+1,none⟩) i).trans A) ((d.cell (p:=⟨g,off+2,none⟩) i).trans u)).mono ?_;rintro e c ⟨rfl,a⟩;exact⟨rfl,d.trans (a.mono d.size)⟩
 have m:Hid (∀W,Hid (Below w.heap.size w W)->Calls prog 165 #[.slice (some ⟨g,off+3,none⟩) 3 3] W λe c=>e=.returned (.agg #[.int .i64 h,.int .i64 t2,.int .i64 f])/\Hid (Below w.heap.size w c)):=by
  intro W j;have d:=j.out;refine(n g (off+3) 3 3 h t2 f W (aR i d.size) (by omega) (by omega) ((d.cell (p:=⟨g,off+3,none⟩) i).trans y) ((d.cell (p:=⟨g,off+3+1,none⟩) i).trans x) ((d.cell (p:=⟨g,off+3+2,none⟩) i).trans l)).mono ?_;rintro e c ⟨rfl,a⟩;exact⟨rfl,d.trans (a.mono d.size)⟩
 have B:Hid (∀W,Hid (Below w.heap.size w W)->Calls prog 168 #[.agg #[.int .i64 k,.int .i64 t,.int .i64 v],.agg #[.int .i64 h,.int .i64 t2,.int .i64 f]] W λe c=>e=.returned (.agg #[.int .i64 k,.int .i64 k,.int .i64 t,.int .i64 v,.int .i64 h,.int .i64 t2,.int .i64 f,.bool true,.bool true])/\Hid (Below w.heap.size w c)):=by
  intro W j;refine(EU k t v h t2 f W).mono ?_;rintro e c ⟨rfl,a⟩;exact⟨rfl,j.out.trans (a.mono j.out.size)⟩
 have E:Hid (Below w.heap.size w (w.alloc (.cells #[.string ⟨#[111,117,116,32,51]⟩,.slice (some ⟨g,off,none⟩) 6 6] 169))):=fC _ _;clear H n z A u y x l;go_enter func92,ntmps92;go_wp2_with fail;have q:=hid E.out.drew
 go_region_held3 (λ_=>True) (first|exact trivial|fail) (first
  |(go_at_call 166;refine(C.out _ r).mono ?_;rintro e w5 ⟨b,rfl,l⟩)
  |(go_at_call 168;refine(B.out _ s).mono ?_;rintro e w4 ⟨rfl,r⟩)
  |(go_at_call 165;refine(m.out _ a).mono ?_;rintro e w3 ⟨rfl,s⟩)
  |(go_at_call 165;refine(o.out _ q).mono ?_;rintro e w2 ⟨rfl,a⟩)
  |fail)
 go_wp2;go_ret;exact⟨b,rfl,l.out⟩
theorem abH(u:lF)(be bj g off:Nat)(s k t v n:Int)(P:World->Prop)(w:World)(h:g<w.heap.size)(o:be<w.heap.size)
  (A:w.cell? ⟨g,off,none⟩=some (.int .i64 s)) (r:w.cell? ⟨g,off+1,none⟩=some (.int .i64 k)) (q:w.cell? ⟨g,off+2,none⟩=some (.int .i64 t)) (j:w.cell? ⟨g,off+3,none⟩=some (.int .i64 v)) (y:w.cell? ⟨g,off+4,none⟩=some (.int .i64 n))
  (z:w.cell? ⟨be,3,none⟩=some (.pointer (some ⟨bj,0,none⟩)))
  (i:∀W,P W->W.cell? ⟨be,3,none⟩=some (.pointer (some ⟨bj,0,none⟩))/\W.cell? ⟨g,off,none⟩=some (.int .i64 s)/\W.cell? ⟨g,off+4,none⟩=some (.int .i64 n))
  (H:∀W,Below w.heap.size w W->Calls prog 164 #[.pointer (some ⟨bj,0,none⟩),.int .i64 s,.agg #[.int .i64 k,.int .i64 t,.int .i64 v],.int .i64 n] W λe a=>∃c,e=.returned (.iface 24 (.int .i64 c))/\P a):
  Calls prog 92 #[.pointer (some ⟨be,0,none⟩),.agg #[.string ⟨#[114,111,119]⟩,.slice (some ⟨g,off,none⟩) 5 5]] w λe a=>e=.returned (.bool false)/\P a:=by
 have C:Hid (∀W,Hid (Below w.heap.size w W)->Calls prog 164 #[.pointer (some ⟨bj,0,none⟩),.int .i64 s,.agg #[.int .i64 k,.int .i64 t,.int .i64 v],.int .i64 n] W λe a=>∃c,e=.returned (.iface 24 (.int .i64 c))/\(a.cell? ⟨be,3,none⟩=some (.pointer (some ⟨bj,0,none⟩))/\a.cell? ⟨g,off,none⟩=some (.int .i64 s)/\a.cell? ⟨g,off+4,none⟩=some (.int .i64 n))/\Hid (P a)):=by
  intro W l;refine(H W l.out).mono ?_;rintro e a ⟨c,rfl,x⟩;exact⟨c,rfl,i a x,x⟩
 have B:Hid (∀W,Hid (Below w.heap.size w W)->Calls prog 165 #[.slice (some ⟨g,off+1,none⟩) 4 4] W λe a=>e=.returned (.agg #[.int .i64 k,.int .i64 t,.int .i64 v])/\(a.cell? ⟨be,3,none⟩=some (.pointer (some ⟨bj,0,none⟩))/\a.cell? ⟨g,off,none⟩=some (.int .i64 s)/\a.cell? ⟨g,off+4,none⟩=some (.int .i64 n))/\Hid (Below w.heap.size w a)):=by
  intro W l;have f:=l.out;refine(u g (off+1) 4 4 k t v W (aR h f.size) (by omega) (by omega) ((f.cell (p:=⟨g,off+1,none⟩) h).trans r) ((f.cell (p:=⟨g,off+1+1,none⟩) h).trans q) ((f.cell (p:=⟨g,off+1+2,none⟩) h).trans j)).mono ?_;rintro e a ⟨rfl,d⟩;have b:=f.trans (d.mono f.size);exact⟨rfl,⟨(b.cell (p:=⟨be,3,none⟩) o).trans z,(b.cell (p:=⟨g,off,none⟩) h).trans A,(b.cell (p:=⟨g,off+4,none⟩) h).trans y⟩,b⟩
 have hB:Hid (Below w.heap.size w (w.alloc (.cells #[.string ⟨#[114,111,119]⟩,.slice (some ⟨g,off,none⟩) 5 5] 169))):=fC _ _;have m:Hid (Below w.heap.size w (w.alloc (.cells #[.string ⟨#[114,111,119]⟩,.slice (some ⟨g,off,none⟩) 5 5] 169)).drew):=(fC _ _).drew;clear H u i r q j;go_enter func92,ntmps92;go_wp2_with fail
 go_region_held3 (λW=>W.cell? ⟨be,3,none⟩=some (.pointer (some ⟨bj,0,none⟩))/\W.cell? ⟨g,off,none⟩=some (.int .i64 s)/\W.cell? ⟨g,off+4,none⟩=some (.int .i64 n)) (first|(go_keep;done)|fail) (first
  |(go_at_call 164;refine(C.out _ d).mono ?_;rintro e w3 ⟨c,rfl,hc3,j⟩;have hq:=ad1 c)
  |(go_at_call 165;refine(B.out _ m).mono ?_;rintro e w2 ⟨rfl,hc2,d⟩)
  |fail)
 go_wp2;go_ret;exact⟨rfl,j.out⟩
theorem aco(be g off n c:Nat)(P:World->Prop)(w:World)(h:∀W,Below w.heap.size w W->P W):
  Calls prog 92 #[.pointer (some ⟨be,0,none⟩),.agg #[.string ⟨#[112,108,97,110]⟩,.slice (some ⟨g,off,none⟩) n c]] w λe a=>e=.returned (.bool true)/\P a:=by
 have b:Hid (P (w.alloc (.cells #[.string ⟨#[112,108,97,110]⟩,.slice (some ⟨g,off,none⟩) n c] 169))):=h _ (fC _ _);clear h;go_enter func92,ntmps92;go_wp2;go_ret;exact⟨rfl,b.out⟩
end
section
open Go.Joins Go.Shelf
theorem abY(be:Nat)(g off c:Nat)(a b d:Int)(w:World)(h:a<0∨b<0∨d<0)
  (m:w.cell? ⟨g,off,none⟩=some (.int .i64 a)) (n:w.cell? ⟨g,off+1,none⟩=some (.int .i64 b)) (l:w.cell? ⟨g,off+2,none⟩=some (.int .i64 d)):
  Calls prog 162 #[.pointer (some ⟨be,0,none⟩),.slice (some ⟨g,off,none⟩) 3 c] w λe k=>e=.returned (.bool false)/\Below w.heap.size w k:=by
 have f:=Tryz.slices_Min_int g off 3 c [a,b,d] w (by omega) (by simp) (by omega) (by
  intro j o
  match j,o with
  |0,_=>exact m
  |1,_=>exact n
  |2,_=>exact l)
 have hm:Lib.minOf (List.take 3 [a,b,d])<0:=by
  show min (min (min a a) b) d<0;omega
 clear h m n l;go_enter func162,ntmps162;go_wp2_with fail;refine f.mono ?_;rintro e k ⟨rfl,i⟩;have i:=i.symm;subst i;clear f;generalize Lib.minOf (List.take 3 [a,b,d])=mm at *;go_wp2;go_ret;exact⟨rfl,iL _ _⟩
theorem abZ(be:Nat)(o:O)(w:World)(d:au o.lk o.lt o.lv=false∨au o.rk o.rt o.rv=false∨(o.hl=true/\o.hr=true/\o.lk≠o.rk)):
  Calls prog 166 #[.pointer (some ⟨be,0,none⟩),vO o] w λe g=>e=.returned (.bool false)/\Below w.heap.size w g:=by
 have f:Hid (∀(a b c:Int) (W:World),Below w.heap.size w W->W.heap[w.heap.size]?=some (kY o)->Calls prog 96 #[.agg #[.int .i64 a,.int .i64 b,.int .i64 c]] W λe g=>e=.returned (.bool (au a b c))/\Hid (Below w.heap.size w g/\g.heap[w.heap.size]?=some (kY o))):=by
  intro a b c W s j;refine(iN a b c W).mono ?_;rintro e g ⟨rfl,r⟩;exact⟨rfl,s.trans (r.mono s.size),(r.block _ (ax.1 j).1).trans j⟩
 have p:Hid (Below w.heap.size w (w.alloc (kY o))/\(w.alloc (kY o)).heap[w.heap.size]?=some (kY o)):=⟨fC _ _,eZ w (kY o)⟩;have q:=jy p.out.2;have i:=hid d;clear d;simp only[vO];go_enter func166,ntmps166;go_wp2_with fail;refine(f.out _ _ _ _ p.out.1 p.out.2).mono ?_;rintro e w1 ⟨rfl,k⟩;have m:=jy k.out.2;clear q;cases hg1:au o.lk o.lt o.lv
 .go_wp2;go_ret;exact⟨rfl,k.out.1⟩
 .go_wp2_with fail;refine(f.out _ _ _ _ k.out.1 k.out.2).mono ?_;rintro e w2 ⟨rfl,n⟩;have l:=jy n.out.2;clear m;cases hg2:au o.rk o.rt o.rv
  .go_wp2;go_ret;exact⟨rfl,n.out.1⟩
  .rcases i.out with h|h|⟨hl,hr,hk⟩
   .rw[hg1]at h;cases h
   .rw[hg2]at h;cases h
   .rw[hl,hr]at l
    have hn:(o.lk !=o.rk)=true:=by simpa using hk
    clear hl hr hk i;go_wp2;go_ret;exact⟨rfl,n.out.1⟩
end
section
theorem adD(be g off c:Nat)(a mk:Nat->Int)(St:Nat->World->Prop)(A:World->Prop)(w:World)(F:St 0 w)
  (o:∀i W,St i W->g<W.heap.size) (hd:∀i W G,St i W->Below W.heap.size W G->St i G)
  (m:∀i j W,St i W->j<2->W.cell? ⟨g,off+j,none⟩=some (.int .i64 (a j)))
  (n:∀i W,i<2->St i W->Calls prog 20 #[.pointer (some ⟨be,0,none⟩),.int .i64 i] W λe b=>e=.returned (.int .i64 (mk i))/\b=W)
  (t:∀i W,i<2->a i≠mk i->St i W->(Calls prog 15 #[.pointer (some ⟨be,0,none⟩),.int .i64 i,.int .i64 (a i)] W λe b=>e=.returned .nilIface/\St (i+1) b)∨∃k,Calls prog 15 #[.pointer (some ⟨be,0,none⟩),.int .i64 i,.int .i64 (a i)] W λe b=>e=.returned (.iface 24 (.int .i64 k))/\b.cell? ⟨g,off+i,none⟩=some (.int .i64 (a i))/\A b)
  (u:∀i W,i<2->a i=mk i->St i W->St (i+1) W):
  Calls prog 163 #[.pointer (some ⟨be,0,none⟩),.slice (some ⟨g,off,none⟩) 2 c] w λe b=>(e=.returned (.bool true)/\St 2 b)∨(e=.returned (.bool false)/\A b):=by
 have E:=hid F;clear F;go_enter func163,ntmps163;go_wp2
 go_loopg [6] 2 (λV N wr=>∃i:Nat,i<=2/\V=2 -i/\N=.int .i64 i/\Hid (St i wr))
 case atStart=>exact⟨0,aW _,rfl,rfl,E⟩
 case round=>
  obtain⟨i,hile,C,rfl,I⟩:=hrel;have H:=hid C;clear C E
  by_cases hlt2:i<2
  .have j1:(0:Int)<=(i:Int):=by omega
   have U:(i:Int)<2:=by omega
   by_cases he:a i=mk i
   .have M:Hid (∀W,Below wr.heap.size wr W->St (i+1) W):=λW S=>u i W hlt2 he (hd i wr W I.out S)
    have q:=λp os=>m i i _ (hd i wr _ I.out (below_regrown wr p os)) hlt2
    have s:=λp os=>o i _ (hd i wr _ I.out (below_regrown wr p os))
    have d:Hid (∀p os,Calls prog 20 #[.pointer (some ⟨be,0,none⟩),.int .i64 i] (Go.Sort.grow (redrawn wr p) os) λe b=>e=.returned (.int .i64 (mk i))/\Below (Go.Sort.grow (redrawn wr p) os).heap.size (Go.Sort.grow (redrawn wr p) os) b):=λp os=>(n i _ hlt2 (hd i wr _ I.out (below_regrown wr p os))).mono λe b ⟨T,P⟩=>⟨T,by rw[P];exact iL _ _⟩
    have R:(a i !=mk i)=false:=by rw[he];simp
    clear t u n he hd o m I;go_wp2;refine wp_region_quiet_below (by kernel_rfl) (by kernel_rfl) ?_
    repeat (quiet_step (first|(go_at_call 20;exact Calls.regrown_of (d.out _ _))|fail))
    refine wpQuiet_nil ?_;intro _ v;obtain⟨⟨dq,f⟩,r⟩:=v;subst r;have x:Hid (St (i+1) (Go.Sort.grow (redrawn wr dq) f)):=M.out _ (below_regrown wr dq f);clear q s d M
    dsimp only
    revert x;generalize Go.Sort.grow (redrawn wr dq) f=w6;intro x;go_wp2
    go_roundg (2 -(i+1))
    all_goals first
     |(have:=H.out;omega)
     |exact⟨i+1,by omega,rfl,by first|rfl|(congr 1;omega)|go_num,x⟩
   .have s:=o i wr I.out;have q:=m i i wr I.out hlt2;have L:Hid (St i wr.drew):=hd i wr wr.drew I.out ((iL _ _).drew);have d:Hid (Calls prog 20 #[.pointer (some ⟨be,0,none⟩),.int .i64 i] wr.drew λe b=>e=.returned (.int .i64 (mk i))/\b=wr.drew):=n i wr.drew hlt2 L.out
    have R:(a i !=mk i)=true:=by simpa using he
    rcases t i wr.drew hlt2 he L.out with hv|⟨ke,hv⟩
    .have l:Hid (Calls prog 15 #[.pointer (some ⟨be,0,none⟩),.int .i64 i,.int .i64 (a i)] wr.drew λe b=>e=.returned .nilIface/\b.cell? ⟨g,off+i,none⟩=some (.int .i64 (a i))/\Hid (St (i+1) b)):=by
      refine hv.mono ?_;rintro e b ⟨rfl,h⟩;exact⟨rfl,m _ i b h hlt2,h⟩
     clear t u n he hd o m I hv;go_wp2
     go_region_held3 (λW=>W.cell? ⟨g,off+i,none⟩=some (.int .i64 (a i))) (first|(go_keep;done)|fail) (first
      |(go_at_call 15;refine l.out.mono ?_;rintro e Q ⟨rfl,B,z⟩)
      |(go_at_call 20;refine d.out.mono ?_;rintro e X ⟨rfl,y⟩;subst y)
      |fail)
     go_wp2
     go_roundg (2 -(i+1))
     all_goals first
      |(have:=H.out;omega)
      |exact⟨i+1,by omega,rfl,by first|rfl|(congr 1;omega)|go_num,z⟩
    .have l:Hid (Calls prog 15 #[.pointer (some ⟨be,0,none⟩),.int .i64 i,.int .i64 (a i)] wr.drew λe b=>e=.returned (.iface 24 (.int .i64 ke))/\b.cell? ⟨g,off+i,none⟩=some (.int .i64 (a i))/\Hid (A b)):=hv;have hq:=GG ke;clear t u n he hd o m I hv;go_wp2
     go_region_held3 (λW=>W.cell? ⟨g,off+i,none⟩=some (.int .i64 (a i))) (first|(go_keep;done)|fail) (first
      |(go_at_call 15;refine l.out.mono ?_;rintro e Q ⟨rfl,B,z⟩)
      |(go_at_call 20;refine d.out.mono ?_;rintro e X ⟨rfl,y⟩;subst y)
      |fail)
     go_wp2;go_ret;exact .inr ⟨rfl,z.out⟩
  .have U:¬((i:Int)<2):=by omega
   have K:=I.out;rw[show i=2 by omega]at K;clear I;go_wp2;go_ret;exact .inl ⟨rfl,K⟩
end
section
theorem Xn(s:ByteArray)(hs:s.size<=2000000):keyOf prog 9 (.string s)=some (.string s.data.toList):=by
 simp[keyOf,underlying9,mapKey];unfold maxLen;omega
theorem adX(l:List UInt8):(∃k,jN ⟨l.toArray⟩ k)∨(Maps.has Ip (.string l)=false/\Ip.atKey (.string l) (.lit (.int .i64 0))=.lit (.int .i64 0)):=by
 by_cases h1:l=[112,108,97,110]
 .subst h1;exact .inl ⟨3,.plan⟩
 by_cases h2:l=[102,101,100]
 .subst h2;exact .inl ⟨3,.fed⟩
 by_cases h3:l=[109,97,114,107,115]
 .subst h3;exact .inl ⟨2,.marks⟩
 by_cases h4:l=[114,111,119]
 .subst h4;exact .inl ⟨5,.row⟩
 by_cases h5:l=[111,117,116,32,49]
 .subst h5;exact .inl ⟨3,.left⟩
 by_cases h6:l=[111,117,116,32,50]
 .subst h6;exact .inl ⟨3,.right⟩
 by_cases h7:l=[111,117,116,32,51]
 .subst h7;exact .inl ⟨6,.pair⟩
 by_cases h8:l=[101,110,100]
 .subst h8;exact .inl ⟨0,.fin⟩
 refine .inr ⟨?_,?_⟩
 .unfold Ip;rw[iY (by simpa using h8),iY (by simpa using h7),iY (by simpa using h6),iY (by simpa using h5),iY (by simpa using h4),iY (by simpa using h3),iY (by simpa using h2),iY (by simpa using h1)];rfl
 .unfold Ip;rw[iZ (by simpa using h8),iZ (by simpa using h7),iZ (by simpa using h6),iZ (by simpa using h5),iZ (by simpa using h4),iZ (by simpa using h3),iZ (by simpa using h2),iZ (by simpa using h1)];rfl
theorem adv{W:World}{f:Nat}(h:nH W f)(hd:ByteArray)(j:hd.size<=2000000):(∃k,jN hd k/\(Instr.lookup 152 (.map (some f)) (.string hd) true).run prog W=.ok (.tuple #[.int .i64 k,.bool true]) W)∨(Instr.lookup 152 (.map (some f)) (.string hd) true).run prog W=.ok (.tuple #[.int .i64 0,.bool false]) W:=by
 rcases adX hd.data.toList with⟨k,g⟩|⟨m,i⟩
 .have e:(⟨hd.data.toList.toArray⟩:ByteArray)=hd:=by cases hd;simp
  rw[e]at g;exact .inl ⟨k,g,qI h g⟩
 .obtain⟨v,ps,d,l⟩:=h.look_ok tK underlying152 (Dl W) (plainElem_int underlying3 (q:= .i64) (a:=0) (by decide)) (Xn hd j);obtain⟨c,rfl,b,_⟩:=plainElem_int_inv underlying3 l;have b:=congrArg Prod.fst b;rw[i]at b;rw[d,m]
  injection b with b
  injection b with _ b
  rw[b];exact .inr rfl
end
section
open Go.Joins
theorem adV(b:List UInt8):∃(h:List UInt8) (t:List (List UInt8)),(32:UInt8)∉h/\(∀x∈t,(32:UInt8)∉x)/\dW h t=b:=by
 induction b with
 |nil=>exact⟨[],[],by simp,by simp,rfl⟩
 |cons c b ih=>
  obtain⟨h,t,j,g,l⟩:=ih
  by_cases hc:c=32
  .subst hc;refine⟨[],h::t,by simp,?_,?_⟩
   .intro x a
    rcases dM.1 a with rfl|a
    .exact j
    .exact g x a
   .rw[<-l];simp[dW]
  .refine⟨c::h,t,?_,g,?_⟩
   .intro m
    rcases dM.1 m with e|e
    .exact hc e.symm
    .exact j e
   .rw[<-l];simp[dW]
theorem aaT(h:List UInt8)(t:List (List UInt8)):h.length<=(dW h t).length/\t.length<=(dW h t).length/\∀x∈t,x.length<=(dW h t).length:=by
 have key:∀t:List (List UInt8),t.length<=(t.flatMap λx=>32::x).length/\∀x∈t,x.length<=(t.flatMap λx=>32::x).length:=by
  intro t
  induction t with
  |nil=>simp
  |cons y t ih=>
   obtain⟨i1,b⟩:=ih;simp only[List.flatMap_cons,List.length_append,List.length_cons];refine⟨by omega,λx a=>?_⟩
   rcases dM.1 a with rfl|a
   .omega
   .have:=b x a;omega
 unfold dW;rw[List.length_append];refine⟨by omega,by have:=(key t).1;omega,λx a=>by have:=(key t).2 x a;omega⟩
abbrev ZJ(n:Int):Prop:= -9223372036854775808<=n/\n<=9223372036854775807
structure M6(w:World)(f off d bl:Nat)(hd:ByteArray)(k:Nat)(vs:List (List UInt8))(ns:List Int)(W:World):Prop where
 low:Below w.heap.size w W
 res:W.heap[w.heap.size]?=some zL
 wrd:∀j x,vs[j]?=some x->W.cell? ⟨f,off+(j+1),none⟩=some (.string (bW x))
 nums:W.heap[d]?=some (.cells (ns.map (Value.int .i64)++List.replicate (k -ns.length) (Value.int .i64 0)).toArray 3)
 line:W.heap[bl]?=some (.cells #[.string hd,.slice (some ⟨d,0,none⟩) k k] 169)
 ge:w.heap.size<=d
 ngw:f≠d
 all:∀n∈ns,ZJ n
section
variable{w:World}{f off d bl:Nat}{hd:ByteArray}{k:Nat}{vs:List (List UInt8)}{ns:List Int}{W i:World}
theorem M6.lts(h:M6 w f off d bl hd k vs ns W):w.heap.size<W.heap.size/\d<W.heap.size/\bl<W.heap.size:=⟨(ax.1 h.res).1,(ax.1 h.nums).1,(ax.1 h.line).1⟩
theorem M6.nes(h:M6 w f off d bl hd k vs ns W):w.heap.size≠d/\bl≠d:=by
 refine⟨λe=>?_,λe=>?_⟩
 .have a:=h.res;rw[e,h.nums]at a;simp at a
 .have a:=h.line;rw[e,h.nums]at a;simp at a
theorem M6.below(h:M6 w f off d bl hd k vs ns W)(a:Below W.heap.size W i):M6 w f off d bl hd k vs ns i:=
 ⟨h.low.trans (a.mono h.low.size),(a.block _ h.lts.1).trans h.res,λj n b=>(a.cell (p:=⟨f,off+(j+1),none⟩) (World.block_lt_of_cell? _ _ (h.wrd j n b))).trans (h.wrd j n b),(a.block _ h.lts.2.1).trans h.nums,(a.block _ h.lts.2.2).trans h.line,h.ge,h.ngw,h.all⟩
theorem M6.cells(h:M6 w f off d bl hd k vs ns W):W.cell? ⟨bl,0,none⟩=some (.string hd)/\W.cell? ⟨bl,1,none⟩=some (.slice (some ⟨d,0,none⟩) k k)/\W.cell? ⟨w.heap.size,0,none⟩=some (.string ⟨#[]⟩)/\W.cell? ⟨w.heap.size,1,none⟩=some (.slice none 0 0)/\W.frozen? ⟨w.heap.size,0,none⟩=false/\W.frozen? ⟨w.heap.size,1,none⟩=false/\W.frozen? ⟨d,ns.length,none⟩=false/\(ns.length<k->W.cell? ⟨d,ns.length,none⟩=some (.int .i64 0)):=by
 refine⟨by rw[fq h.line];rfl,by rw[fq h.line];rfl,by rw[fq h.res];rfl,by rw[fq h.res];rfl,fV h.res 0,fV h.res 1,fV h.nums ns.length,λhlt=>?_⟩;rw[fq h.nums,List.getElem?_toArray,dK (by simp),List.getElem?_replicate,if_pos (by simp;omega)]
theorem M6.store(h:M6 w f off d bl hd k vs ns W)(hlt:ns.length<k){n:Int}(o:ZJ n):M6 w f off d bl hd k vs (ns++[n]) (W.setCell ⟨d,ns.length,none⟩ (.int .i64 n)):=by
 have b:∀j,j≠d->(W.setCell ⟨d,ns.length,none⟩ (.int .i64 n)).heap[j]?=W.heap[j]? :=λj e=>iJ _ _ _ _ e
 refine⟨h.low.setCell (p:=⟨d,ns.length,none⟩) h.ge _,(b _ h.nes.1).trans h.res,λj m l=>(World.cell?_of_block (w:=W) (a:=⟨f,off+(j+1),none⟩) (b f h.ngw)).trans (h.wrd j m l),?_,(b _ h.nes.2).trans h.line,h.ge,h.ngw,λm c=>?_⟩
 .rw[fZ h.nums];congr 2;simp only[List.setIfInBounds_toArray];congr 1;rw[List.set_append_right _ _ (by simp)];simp only[List.map_append,List.append_assoc,List.map_cons,List.map_nil,List.length_map,List.singleton_append,List.length_append,List.length_cons,List.length_nil];congr 1;obtain⟨r,hr⟩:∃r,k -ns.length=r+1:=⟨k -ns.length -1,by omega⟩;rw[hr,Nat.sub_self,List.replicate_succ,List.set_cons_zero,show k -(ns.length+(0+1))=r by omega]
 .rcases List.mem_append.1 c with g|g
  .exact h.all m g
  .simp at g;rw[g];exact o
end
abbrev ZK(w w':World)(e:Ending):Prop:=e=.returned (.tuple #[.agg #[.string ⟨#[]⟩,.slice none 0 0],.bool false])/\Below w.heap.size w w'
abbrev X0(w w':World)(e:Ending)(hd:ByteArray)(k:Nat):Prop:=∃(ns:List Int) (g:Nat),ns.length=k/\(∀n∈ns,ZJ n)/\e=.returned (.tuple #[.agg #[.string hd,.slice (some ⟨g,0,none⟩) k k],.bool true])/\w'.heap[g]?=some (.cells (ns.map (Value.int .i64)).toArray 3)/\w.heap.size<=g/\Below w.heap.size w w'
theorem aep(hd:List UInt8)(vs:List (List UInt8))(k:Nat)(hk:jN (bW hd) k)(hk1:1<=k)(ho:hd≠[111,117,116])(hl:vs.length=k)
  (S:(32:UInt8)∉hd) (hw:∀x∈vs,(32:UInt8)∉x) (hsz:(dW hd vs).length<=1000000) (Z:Nat) (w:World) (hK:nH w Z) (Eu:Z<w.heap.size)
  (M7:∀(s sep:ByteArray) (W:World),Below w.heap.size w W->s.size<4294967281->1<=sep.size->Calls prog 80 #[.string s,.string sep] W λe b=>e=.returned (.slice (some ⟨W.heap.size,0,none⟩) (Lib.countB s sep+1) (Lib.countB s sep+1))/\b=W.alloc (.cells ((Lib.splitB sep 0 (Lib.countB s sep) s).map Value.string).toArray 9))
  (Ya:∀(y:List UInt8) (W:World),Below w.heap.size w W->y.length<=1000000->Calls prog 161 #[.string (bW y)] W λe b=>(∃n,ZJ n/\e=.returned (.tuple #[.int .i64 n,.nilIface])/\Below W.heap.size W b)∨∃n t u,e=.returned (.tuple #[.int .i64 n,.iface t u])/\Below W.heap.size W b):
  Calls prog 91 #[.string (bW (dW hd vs)),.map (some Z)] w λe b=>ZK w b e∨X0 w b e (bW hd) k:=by
 have ZM:k<=6:=by cases hk <;>omega
 have h0:(0:Int)<(k:Int):=by omega
 have hk0:k≠0:=by omega
 have h6:(k:Int)<=6:=by omega
 have U:∀x∈vs,x.length<=1000000:=λx hx=>aH ((aaT hd vs).2.2 x hx) hsz
 have hS:=M7 (bW (dW hd vs)) ⟨#[32]⟩ (w.alloc zL) (fC _ _) (by show(dW hd vs).toArray.size<_;simp only[List.size_toArray];omega) (by decide);rw[mR hd vs S hw,vM vs hd S hw]at hS;rw[hl]at hS
 have hne:(hd==[111,117,116])=false:=by simpa using ho
 obtain⟨z,DD,hmk⟩:∃z:Array Value,Hid (z=(List.replicate k (Value.int .i64 0)).toArray)/\∀W:World,(Instr.makeSlice 84 (.int .i64 k) (.int .i64 k)).run prog W=.ok (.slice (some ⟨W.heap.size,0,none⟩) k k) (W.alloc (.cells z 3)):=wM k (by omega);go_enter func91,ntmps91;go_wp2_with fail;refine hS.mono ?_;rintro e a ⟨rfl,rfl⟩;obtain⟨a,hw1⟩:∃a,(w.alloc zL).alloc (.cells (List.map Value.string (List.map (λx=>(⟨x.toArray⟩:ByteArray)) (hd::vs))).toArray 9)=a:=⟨_,rfl⟩;rw[hw1]
 have r:w.heap.size+1<a.heap.size:=by rw[<-hw1];simp
 have pY:w.heap.size<a.heap.size:=by rw[<-hw1];simp;omega
 have B:Below w.heap.size w a:=by rw[<-hw1];exact fK _ _ _
 have X:a.heap[w.heap.size]?=some zL:=by rw[<-hw1];exact(gL _ _ _ (by simp)).trans (eZ w _)
 have F:a.heap[w.heap.size+1]?=some (.cells (List.map Value.string (List.map (λx=>(⟨x.toArray⟩:ByteArray)) (hd::vs))).toArray 9):=by
  rw[<-hw1];have:=eZ (w.alloc zL) (.cells (List.map Value.string (List.map (λx=>(⟨x.toArray⟩:ByteArray)) (hd::vs))).toArray 9)
  rwa [World.size_alloc]at this
 have R:a.cell? ⟨w.heap.size+1,0,none⟩=some (.string (bW hd)):=by rw[fq F];simp
 have H:=qI (hK.still (B.block Z Eu)) hk
 have H1:Hid (Below w.heap.size w a/\a.heap[w.heap.size]?=some zL/\∀j x,vs[j]?=some x->a.cell? ⟨w.heap.size+1,0+(j+1),none⟩=some (.string (bW x))):=by
  refine⟨B,X,λj n K=>?_⟩;rw[fq F,Nat.zero_add];simp[K]
 clear hw1 B X F;simp only[World.size_alloc]at *;clear hS ho hk hw;go_wp2
 go_region
 .have R0:M6 w (w.heap.size+1) 0 a.heap.size (a.heap.size+1) (bW hd) k vs [] (((a.alloc (.cells z 3)).alloc (.cells #[.string (bW hd),.slice (some ⟨a.heap.size,0,none⟩) k k] 169)).drew):=by
   have h:Below a.heap.size a (((a.alloc (.cells z 3)).alloc (.cells #[.string (bW hd),.slice (some ⟨a.heap.size,0,none⟩) k k] 169)).drew):=(fK _ _ _).drew;obtain⟨Q,a2,a3⟩:=H1.out;refine⟨Q.trans (h.mono Q.size),(h.block _ pY).trans a2,λj n K=>(h.cell (p:=⟨w.heap.size+1,0+(j+1),none⟩) r).trans (a3 j n K),?_,?_,by omega,by omega,by simp⟩
   .show(((a.alloc (.cells z 3)).alloc (.cells #[.string (bW hd),.slice (some ⟨a.heap.size,0,none⟩) k k] 169))).heap[a.heap.size]?=_;rw[(bV a _ _).1,DD.out];simp
   .show(((a.alloc (.cells z 3)).alloc (.cells #[.string (bW hd),.slice (some ⟨a.heap.size,0,none⟩) k k] 169))).heap[(a.heap.size+1)]?=_;exact(bV a _ _).2
  clear H1 H DD hmk R;revert R0;generalize(((a.alloc (.cells z 3)).alloc (.cells #[.string (bW hd),.slice (some ⟨a.heap.size,0,none⟩) k k] 169)).drew)=w2;generalize hbl:(a.heap.size+1)=bl;generalize hgs:a.heap.size=d;intro R0;clear hgs hbl pY r;have L:=R0.lts;have hc:=R0.cells;have V:=hid R0;clear R0;go_wp2
  go_loopg [60] k (λgg Pp wr=>∃ns:List Int,ns.length<=k/\gg=k -ns.length/\Pp=.int .i64 ns.length/\Hid (M6 w (w.heap.size+1) 0 d bl (bW hd) k vs ns wr))
  case atStart=>exact⟨[],aW _,rfl,rfl,V⟩
  case round=>
   obtain⟨ns,G,M,rfl,I⟩:=hrel;have HG:=hid M;clear M V hc L
   by_cases hlt2:ns.length<k
   .obtain⟨x,hin⟩:∃x,vs[ns.length]?=some x:=⟨_,aO (by omega)⟩;have E:=I.out.wrd ns.length x hin;rw[show 0+(ns.length+1)=1+ns.length by omega]at E
    have j1:(0:Int)<=(ns.length:Int):=by omega
    have j2:(ns.length:Int)<(k:Int):=by omega
    have j3:(ns.length:Int)+1<(k:Int)+1:=by omega
    have cw:=I.out.cells
    have C:Hid (Calls prog 161 #[.string (bW x)] wr λe b=>(∃n,e=.returned (.tuple #[.int .i64 n,.nilIface])/\(b.cell? ⟨bl,1,none⟩=some (.slice (some ⟨d,0,none⟩) k k)/\b.cell? ⟨d,ns.length,none⟩=some (.int .i64 0)/\b.frozen? ⟨d,ns.length,none⟩=false)/\Hid (ZJ n/\M6 w (w.heap.size+1) 0 d bl (bW hd) k vs ns b))∨
      ∃n t u,e=.returned (.tuple #[.int .i64 n,.iface t u])/\(b.cell? ⟨w.heap.size,0,none⟩=some (.string ⟨#[]⟩)/\b.cell? ⟨w.heap.size,1,none⟩=some (.slice none 0 0)/\b.frozen? ⟨w.heap.size,0,none⟩=false/\b.frozen? ⟨w.heap.size,1,none⟩=false)/\Hid (M6 w (w.heap.size+1) 0 d bl (bW hd) k vs ns b)):=by
     refine(Ya x wr I.out.low (U x (cZ hin))).mono ?_;rintro e b (⟨n,hn,rfl,h⟩|⟨n,t,u,rfl,h⟩)
     .have c:=I.out.below h;have g:=c.cells;exact .inl ⟨n,rfl,⟨g.2.1,g.2.2.2.2.2.2.2 hlt2,g.2.2.2.2.2.2.1⟩,hn,c⟩
     .have c:=I.out.below h;have g:=c.cells;exact .inr ⟨n,t,u,rfl,⟨g.2.2.1,g.2.2.2.1,g.2.2.2.2.1,g.2.2.2.2.2.1⟩,c⟩
    have P:Hid (∀b n,Hid (ZJ n/\M6 w (w.heap.size+1) 0 d bl (bW hd) k vs ns b)->M6 w (w.heap.size+1) 0 d bl (bW hd) k vs (ns++[n]) (b.setCell ⟨d,ns.length,none⟩ (.int .i64 n))):=λb n Y=>Y.out.2.store hlt2 Y.out.1
    clear I hin cw;go_wp2_with fail;refine C.out.mono ?_;rintro e N (⟨n,rfl,m,A⟩|⟨n,t,u,rfl,m,A⟩)
    .clear C;go_wp2
     go_roundg (k -(ns.length+1))
     all_goals first
      |(have:=HG.out;omega)
      |exact⟨ns++[n],by simp;omega,by simp,by first|rfl|(simp;done)|(congr 1;simp)|(simp;omega),P.out _ _ A⟩
    .clear C P;have hz3:=A.out.lts.1;go_wp2
     have l:((N.setCell ⟨w.heap.size,0,none⟩ (.string ⟨#[]⟩)).setCell ⟨w.heap.size,1,none⟩ (.slice none 0 0)).cell? ⟨w.heap.size,0,none⟩=some (.string ⟨#[]⟩):=by
      rw[World.cell?_setCell_other _ _ _ _ (by simp)];exact World.cell?_setCell_same' _ _ _ (by rw[m.1];rfl)
     have q:((N.setCell ⟨w.heap.size,0,none⟩ (.string ⟨#[]⟩)).setCell ⟨w.heap.size,1,none⟩ (.slice none 0 0)).cell? ⟨w.heap.size,1,none⟩=some (.slice none 0 0):=by
      exact World.cell?_setCell_same' _ _ _ (by rw[World.cell?_setCell_other _ _ _ _ (by simp),m.2.1];rfl)
     refine ja (v:= .tuple #[.agg #[.string ⟨#[]⟩,.slice none 0 0],.bool false]) (by simp[results,Tryz.results91,go_sem,l,q]) rfl (.inl ⟨rfl,?_⟩);exact(A.out.low.setCell (p:=⟨w.heap.size,0,none⟩) (aC _) _).setCell (p:=⟨w.heap.size,1,none⟩) (aC _) _
   .have j2:¬((ns.length:Int)<(k:Int)):=by omega
    have o:ns.length=k:=by omega
    have c:=I.out;have g:=c.cells;clear I
    have HF:Hid (∀u v,(((wr.setCell ⟨w.heap.size,0,none⟩ u).setCell ⟨w.heap.size,1,none⟩ v).heap[d]?=some (.cells (ns.map (Value.int .i64)).toArray 3))/\w.heap.size<=d/\Below w.heap.size w ((wr.setCell ⟨w.heap.size,0,none⟩ u).setCell ⟨w.heap.size,1,none⟩ v)):=by
     intro u v;refine⟨?_,c.ge,(c.low.setCell (p:=⟨w.heap.size,0,none⟩) (aC _) _).setCell (p:=⟨w.heap.size,1,none⟩) (aC _) _⟩;rw[iJ _ _ _ _ (Ne.symm c.nes.1),iJ _ _ _ _ (Ne.symm c.nes.1),c.nums,o,Nat.sub_self];simp
    have T:Hid (ns.length=k/\∀n∈ns,ZJ n):=⟨o,c.all⟩;have l2:=c.lts;clear c o;go_wp2
    have l:((wr.setCell ⟨w.heap.size,0,none⟩ (.string (bW hd))).setCell ⟨w.heap.size,1,none⟩ (.slice (some ⟨d,0,none⟩) k k)).cell? ⟨w.heap.size,0,none⟩=some (.string (bW hd)):=by
     rw[World.cell?_setCell_other _ _ _ _ (by simp)];exact World.cell?_setCell_same' _ _ _ (by rw[g.2.2.1];rfl)
    have q:((wr.setCell ⟨w.heap.size,0,none⟩ (.string (bW hd))).setCell ⟨w.heap.size,1,none⟩ (.slice (some ⟨d,0,none⟩) k k)).cell? ⟨w.heap.size,1,none⟩=some (.slice (some ⟨d,0,none⟩) k k):=by
     exact World.cell?_setCell_same' _ _ _ (by rw[World.cell?_setCell_other _ _ _ _ (by simp),g.2.2.2.1];rfl)
    refine ja (v:= .tuple #[.agg #[.string (bW hd),.slice (some ⟨d,0,none⟩) k k],.bool true]) (by simp[results,Tryz.results91,go_sem,l,q]) rfl (.inr ⟨ns,d,T.out.1,T.out.2,rfl,HF.out _ _⟩)
 .have R0:M6 w (w.heap.size+1) 0 (a.heap.size+1) a.heap.size (bW hd) k vs [] (((a.alloc (.cells #[.string (bW hd),.slice (some ⟨a.heap.size+1,0,none⟩) k k] 169)).alloc (.cells z 3)).drew):=by
   have h:Below a.heap.size a (((a.alloc (.cells #[.string (bW hd),.slice (some ⟨a.heap.size+1,0,none⟩) k k] 169)).alloc (.cells z 3)).drew):=(fK _ _ _).drew;obtain⟨Q,a2,a3⟩:=H1.out;refine⟨Q.trans (h.mono Q.size),(h.block _ pY).trans a2,λj n K=>(h.cell (p:=⟨w.heap.size+1,0+(j+1),none⟩) r).trans (a3 j n K),?_,?_,by omega,by omega,by simp⟩
   .show(((a.alloc (.cells #[.string (bW hd),.slice (some ⟨a.heap.size+1,0,none⟩) k k] 169)).alloc (.cells z 3))).heap[(a.heap.size+1)]?=_;rw[(bV a _ _).2,DD.out];simp
   .show(((a.alloc (.cells #[.string (bW hd),.slice (some ⟨a.heap.size+1,0,none⟩) k k] 169)).alloc (.cells z 3))).heap[a.heap.size]?=_;exact(bV a _ _).1
  clear H1 H DD hmk R;revert R0;generalize(((a.alloc (.cells #[.string (bW hd),.slice (some ⟨a.heap.size+1,0,none⟩) k k] 169)).alloc (.cells z 3)).drew)=w2;generalize hgs:(a.heap.size+1)=d;generalize hbl:a.heap.size=bl;intro R0;clear hgs hbl pY r;have L:=R0.lts;have hc:=R0.cells;have V:=hid R0;clear R0;go_wp2
  go_loopg [60] k (λgg Pp wr=>∃ns:List Int,ns.length<=k/\gg=k -ns.length/\Pp=.int .i64 ns.length/\Hid (M6 w (w.heap.size+1) 0 d bl (bW hd) k vs ns wr))
  case atStart=>exact⟨[],aW _,rfl,rfl,V⟩
  case round=>
   obtain⟨ns,G,M,rfl,I⟩:=hrel;have HG:=hid M;clear M V hc L
   by_cases hlt2:ns.length<k
   .obtain⟨x,hin⟩:∃x,vs[ns.length]?=some x:=⟨_,aO (by omega)⟩;have E:=I.out.wrd ns.length x hin;rw[show 0+(ns.length+1)=1+ns.length by omega]at E
    have j1:(0:Int)<=(ns.length:Int):=by omega
    have j2:(ns.length:Int)<(k:Int):=by omega
    have j3:(ns.length:Int)+1<(k:Int)+1:=by omega
    have cw:=I.out.cells
    have C:Hid (Calls prog 161 #[.string (bW x)] wr λe b=>(∃n,e=.returned (.tuple #[.int .i64 n,.nilIface])/\(b.cell? ⟨bl,1,none⟩=some (.slice (some ⟨d,0,none⟩) k k)/\b.cell? ⟨d,ns.length,none⟩=some (.int .i64 0)/\b.frozen? ⟨d,ns.length,none⟩=false)/\Hid (ZJ n/\M6 w (w.heap.size+1) 0 d bl (bW hd) k vs ns b))∨
      ∃n t u,e=.returned (.tuple #[.int .i64 n,.iface t u])/\(b.cell? ⟨w.heap.size,0,none⟩=some (.string ⟨#[]⟩)/\b.cell? ⟨w.heap.size,1,none⟩=some (.slice none 0 0)/\b.frozen? ⟨w.heap.size,0,none⟩=false/\b.frozen? ⟨w.heap.size,1,none⟩=false)/\Hid (M6 w (w.heap.size+1) 0 d bl (bW hd) k vs ns b)):=by
     refine(Ya x wr I.out.low (U x (cZ hin))).mono ?_;rintro e b (⟨n,hn,rfl,h⟩|⟨n,t,u,rfl,h⟩)
     .have c:=I.out.below h;have g:=c.cells;exact .inl ⟨n,rfl,⟨g.2.1,g.2.2.2.2.2.2.2 hlt2,g.2.2.2.2.2.2.1⟩,hn,c⟩
     .have c:=I.out.below h;have g:=c.cells;exact .inr ⟨n,t,u,rfl,⟨g.2.2.1,g.2.2.2.1,g.2.2.2.2.1,g.2.2.2.2.2.1⟩,c⟩
    have P:Hid (∀b n,Hid (ZJ n/\M6 w (w.heap.size+1) 0 d bl (bW hd) k vs ns b)->M6 w (w.heap.size+1) 0 d bl (bW hd) k vs (ns++[n]) (b.setCell ⟨d,ns.length,none⟩ (.int .i64 n))):=λb n Y=>Y.out.2.store hlt2 Y.out.1
    clear I hin cw;go_wp2_with fail;refine C.out.mono ?_;rintro e N (⟨n,rfl,m,A⟩|⟨n,t,u,rfl,m,A⟩)
    .clear C;go_wp2
     go_roundg (k -(ns.length+1))
     all_goals first
      |(have:=HG.out;omega)
      |exact⟨ns++[n],by simp;omega,by simp,by first|rfl|(simp;done)|(congr 1;simp)|(simp;omega),P.out _ _ A⟩
    .clear C P;have hz3:=A.out.lts.1;go_wp2
     have l:((N.setCell ⟨w.heap.size,0,none⟩ (.string ⟨#[]⟩)).setCell ⟨w.heap.size,1,none⟩ (.slice none 0 0)).cell? ⟨w.heap.size,0,none⟩=some (.string ⟨#[]⟩):=by
      rw[World.cell?_setCell_other _ _ _ _ (by simp)];exact World.cell?_setCell_same' _ _ _ (by rw[m.1];rfl)
     have q:((N.setCell ⟨w.heap.size,0,none⟩ (.string ⟨#[]⟩)).setCell ⟨w.heap.size,1,none⟩ (.slice none 0 0)).cell? ⟨w.heap.size,1,none⟩=some (.slice none 0 0):=by
      exact World.cell?_setCell_same' _ _ _ (by rw[World.cell?_setCell_other _ _ _ _ (by simp),m.2.1];rfl)
     refine ja (v:= .tuple #[.agg #[.string ⟨#[]⟩,.slice none 0 0],.bool false]) (by simp[results,Tryz.results91,go_sem,l,q]) rfl (.inl ⟨rfl,?_⟩);exact(A.out.low.setCell (p:=⟨w.heap.size,0,none⟩) (aC _) _).setCell (p:=⟨w.heap.size,1,none⟩) (aC _) _
   .have j2:¬((ns.length:Int)<(k:Int)):=by omega
    have o:ns.length=k:=by omega
    have c:=I.out;have g:=c.cells;clear I
    have HF:Hid (∀u v,(((wr.setCell ⟨w.heap.size,0,none⟩ u).setCell ⟨w.heap.size,1,none⟩ v).heap[d]?=some (.cells (ns.map (Value.int .i64)).toArray 3))/\w.heap.size<=d/\Below w.heap.size w ((wr.setCell ⟨w.heap.size,0,none⟩ u).setCell ⟨w.heap.size,1,none⟩ v)):=by
     intro u v;refine⟨?_,c.ge,(c.low.setCell (p:=⟨w.heap.size,0,none⟩) (aC _) _).setCell (p:=⟨w.heap.size,1,none⟩) (aC _) _⟩;rw[iJ _ _ _ _ (Ne.symm c.nes.1),iJ _ _ _ _ (Ne.symm c.nes.1),c.nums,o,Nat.sub_self];simp
    have T:Hid (ns.length=k/\∀n∈ns,ZJ n):=⟨o,c.all⟩;have l2:=c.lts;clear c o;go_wp2
    have l:((wr.setCell ⟨w.heap.size,0,none⟩ (.string (bW hd))).setCell ⟨w.heap.size,1,none⟩ (.slice (some ⟨d,0,none⟩) k k)).cell? ⟨w.heap.size,0,none⟩=some (.string (bW hd)):=by
     rw[World.cell?_setCell_other _ _ _ _ (by simp)];exact World.cell?_setCell_same' _ _ _ (by rw[g.2.2.1];rfl)
    have q:((wr.setCell ⟨w.heap.size,0,none⟩ (.string (bW hd))).setCell ⟨w.heap.size,1,none⟩ (.slice (some ⟨d,0,none⟩) k k)).cell? ⟨w.heap.size,1,none⟩=some (.slice (some ⟨d,0,none⟩) k k):=by
     exact World.cell?_setCell_same' _ _ _ (by rw[World.cell?_setCell_other _ _ _ _ (by simp),g.2.2.2.1];rfl)
    refine ja (v:= .tuple #[.agg #[.string (bW hd),.slice (some ⟨d,0,none⟩) k k],.bool true]) (by simp[results,Tryz.results91,go_sem,l,q]) rfl (.inr ⟨ns,d,T.out.1,T.out.2,rfl,HF.out _ _⟩)
end
end Go.Proofs.YthfpipieboophaaGreatDoor
