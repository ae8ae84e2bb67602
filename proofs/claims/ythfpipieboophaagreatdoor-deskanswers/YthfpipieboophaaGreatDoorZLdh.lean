import Derived.Test.YthfpipieboophaaGreatDoorZLdt
import Derived.Test.YthfpipieboophaaGreatDoorZLdb
namespace Go.Proofs.YthfpipieboophaaGreatDoor
set_option maxRecDepth 100000
set_option maxHeartbeats 40000000
open Go.RowKit
section
open Go.Sort
variable{a:Nat}
end
section
open Go.Sort
end
section
open Go.Sort
end
section
open Go.Sort
end
section
open Go.Sort Go.Shelf
theorem LD(a bj p:Nat)(n k:Value)(f0 f1:Int)(y:Option Nat)(r:Nat->Prop)(x:J)(L v:List O)(s t:Int)(w:World)(h:az w a bj p n k f0 f1 y r x L v)(m:moveE x.m0 x.m1 s t≠0) :
    Calls Tryz.prog 15 #[.pointer (some ⟨a,0,none⟩),.int .i64 s,.int .i64 t] w λe c => e = .returned (.iface 24 (.int .i64 (moveE x.m0 x.m1 s t)))/\Below w.heap.size w c:=by
  have o:Hid (∀ W,Below w.heap.size w W->Calls Tryz.prog 51 #[.pointer (some ⟨bj,0,none⟩),.int .i64 s,.int .i64 t] W λe c => e = .returned (.iface 24 (.int .i64 (moveE x.m0 x.m1 s t)))/\c.cell? ⟨a,3,none⟩=some (.pointer (some ⟨bj,0,none⟩))/\Hid (Below w.heap.size w c)):=by
    intro W f
    refine(Ll 0 bj p n k x s t W (h.below f).join m).mono ?_
    rintro e c ⟨rfl,u⟩
    have b:=f.trans (u.mono f.size)
    exact⟨rfl,(h.below b).cells.2.2.2.1,b⟩
  have hc:=h.cells.2.2.2.1
  have hlt:=h.blt
  have l:Hid (Below w.heap.size w w/\Below w.heap.size w w.drew):=⟨zI _ _,(zI _ _).drew⟩
  generalize moveE x.m0 x.m1 s t=ke at *
  clear h m
  go_enter Tryz.func15,Tryz.ntmps15
  first
    | (go_wp2_with (first
        | (go_at_call 51; refine(o.out _ l.out.1).mono ?_; rintro e q ⟨rfl,j,d⟩)
        | fail)
       go_ret
       exact⟨rfl,d.out⟩)
    | (go_wp2
       go_region_held3 (λW => W.cell? ⟨a,3,none⟩=some (.pointer (some ⟨bj,0,none⟩))) (first | (go_keep; done) | fail) (first
        | (go_at_call 51; refine(o.out _ l.out.2).mono ?_; rintro e q ⟨rfl,j,d⟩)
        | fail)
       go_wp2
       go_ret
       exact⟨rfl,d.out⟩)
structure YU(st:Sx)(i:Nat):Prop where
  sv:DI st.x st.f0 st.f1
  tell:∀ o∈st.L,iK o
  len:st.L.length<=i
theorem YU.more{st:Sx}{i j:Nat}(h:YU st i)(b:i<=j):YU st j:=⟨h.sv,h.tell,di h.len b⟩
abbrev YV(i a:Nat)(S:Nat->Prop)(W w':World)(e:Ending):Prop:=(e = .returned (.bool false)/\Turned S W w')∨(e = .returned (.bool true)/\∃ S',(∃ st',PE st' a S' w'/\YU st' (i+1))/\(∀ k,S' k->(S k∨W.heap.size<=k)/\k<w'.heap.size)/\Turned S W w')
section
variable{st:Sx}{i a g:Nat}{S:Nat->Prop}{W:World}
end
end
section
open Go.Shelf
def X9(bs bp bv D l:Nat)(I Ix:World->Prop)(W:World):Exit->Act->World->Prop
 |.normal,_,W'=>I W'/\W.heap.size<=W'.heap.size/\∀k,k=bs∨k=bp∨k=bv∨k=D∨k=l->W'.heap[k]?=W.heap[k]?
 |.ret,_,W'=>Ix W'/\∀k,k=D∨k=l->W'.heap[k]?=W.heap[k]?
 |_,_,_=>False
end
section
open Go.Joins Go.Sort Go.Shelf
attribute [local go_sem] Oper.semAt_some
def Ixs(w:World)(W:World):Prop:=Below w.heap.size w W/\W.heap[w.heap.size]?=some (.cells #[.pointer none] 27)/\W.heap[w.heap.size+1]?=some (.cells #[.bool false] 4)
end
section
open Go.Sort Go.Shelf
section
variable{st:Sx}{i a g:Nat}{S:Nat->Prop}{W:World}
end
end
section
open Go.Sort Go.Shelf
def ZN(s:ByteArray)(x:J)(f0 f1:Int)(Z:List O):Prop:=DI x f0 f1/\(∀o∈Z,iK o)/\bJ Z/\Z.length<=5000/\(bN x f0 f1 Z).length<=60000/\s=⟨(bN x f0 f1 Z).toArray⟩
end
section
open Go.Proofs.Tryz Go.Sort Go.Shelf
variable{st:Sx}{a:Nat}{S:Nat->Prop}{W:World}
theorem GA(n:PE st a S W)(j:W.cell? ⟨2,0,none⟩=some iD)(s k t v:Int)(l:bM s=false∨au k t v=false):
  Calls prog 11 #[.pointer (some ⟨a,0,none⟩),.int .i64 s,.agg #[.int .i64 k,.int .i64 t,.int .i64 v]] W λe m=>e=.returned (.tuple #[.slice none 0 0,.iface 24 (.int .i64 1)])/\Below W.heap.size W m:=by
 obtain⟨bj,c,g,b,d,f,h,hS⟩:=n;exact aab a bj c g b st.f0 st.f1 d f st.x st.L st.L s 1 k t v (by decide) (by decide) W j h (λW _=>O9 bj s k t v W l)
theorem DJ(k:PE st a S W)(s t:Int)(j:moveE st.x.m0 st.x.m1 s t≠0):
  Calls prog 15 #[.pointer (some ⟨a,0,none⟩),.int .i64 s,.int .i64 t] W λe l=>e=.returned (.iface 24 (.int .i64 (moveE st.x.m0 st.x.m1 s t)))/\Below W.heap.size W l:=by
 obtain⟨bj,c,g,b,d,f,h,hS⟩:=k;exact LD a bj c g b st.f0 st.f1 d f st.x st.L st.L s t W h j
section
variable{a bj c:Nat}{g b:Value}{f0 f1:Int}{d:Option Nat}{f:Nat->Prop}{x:J}{L i:List O}{w:World}
end
end
end Go.Proofs.YthfpipieboophaaGreatDoor
