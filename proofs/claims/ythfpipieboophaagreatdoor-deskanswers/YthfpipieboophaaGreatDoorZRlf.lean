import Derived.Test.YthfpipieboophaaGreatDoorZDks
import Derived.Test.YthfpipieboophaaGreatDoorZRla
namespace Go.Proofs.YthfpipieboophaaGreatDoor
set_option maxRecDepth 100000
set_option maxHeartbeats 40000000
open Go.RowKit Go.Sort Go.Shelf
section
open Go.Lib
def Gm:List UInt8->List UInt8->List (List UInt8)
  | cur,[] => if cur=[]then []else [cur]
  | cur,x :: t => if x=32 then (if cur=[]then []else [cur])++Gm [] t else Gm (cur++[x]) t
theorem Kg:∀ (a cur r:List UInt8),(32:UInt8)∉a->Gm cur (a++r)=Gm (cur++a) r
  | [],cur,r,_ => by simp
  | x :: a,cur,r,h => by
    have b:x≠32:=λe => h (by simp[e])
    rw[List.cons_append,Gm,if_neg b,Kg a _ r (λe => h (by simp[e]))]
    simp
theorem Bw(r:Nat):iJ r=true ↔ r=32:=by
  unfold iJ
  rw[beq_iff_eq]
  exact⟨λh => by omega,λh => by omega⟩
theorem Kh(n a c e d:Nat)(r:Nat × Nat)(b:decodeN n a c e d=r):(r.1=32->a=32/\r.2=1)/\(r.1≠32->a≠32/\(1<r.2->c≠32)/\(2<r.2->e≠32)/\(3<r.2->d≠32)/\r.2<=4):=by
  unfold decodeN at b
  repeat' split at b
  all_goals (subst b; refine⟨λh => ?_,λh => ?_⟩ <;> first | exact⟨h,rfl⟩ | (simp only at h ⊢; first | omega | (refine⟨?_,?_,?_,?_,?_⟩ <;> first | omega | (intro h9; omega))))
theorem Mh(n a d c b:Nat):iJ (decodeN n a d c b).1=true->a=32/\(decodeN n a d c b).2=1 :=
  λh => (Kh n a d c b _ rfl).1 ((Bw _).1 h)
theorem Tu(n c d b a:Nat):iJ (decodeN n c d b a).1=false->c≠32/\(1<(decodeN n c d b a).2->d≠32)/\(2<(decodeN n c d b a).2->b≠32)/\(3<(decodeN n c d b a).2->a≠32)/\(decodeN n c d b a).2<=4 :=
  λh => (Kh n c d b a _ rfl).2 (λe => by rw[(Bw _).2 e]at h; cases h)
theorem Qx(s:ByteArray)(i:Nat)(h:i<s.size):s.data.toList[i]?= some (s.get! i):=by
  have a:i<s.data.toList.length:=by rw[<- size_eq]; exact h
  rw[dK a]
  congr 1
  show _=s.data[i]!
  have b:i<s.data.size:=h
  rw[getElem!_pos s.data i b]
  rfl
theorem Qy(s:ByteArray)(pos k:Nat)(hk:pos+k<=s.size)(h:∀ j,j<k->(s.get! (pos+j)).toNat≠32):(32:UInt8)∉(s.data.toList.drop pos).take k:=by
  intro a
  obtain⟨j,hj⟩:=List.getElem?_of_mem a
  rw[List.getElem?_take]at hj
  split at hj
  · rename_i hjk
    rw[List.getElem?_drop,Qx s _ (by omega)]at hj
    have:= Option.some.inj hj
    exact h j hjk (by rw[this]; rfl)
  · cases hj
theorem mg(s:ByteArray):∀ (f pos:Nat) (st:Option Nat) (acc:List (Nat × Nat)),s.size<=pos+f->pos<=s.size->(∀ a,st=some a->a<pos) ->
    acc.map (λp => pieceU s.data.toList p.1 p.2)++Gm (openPiece s.data.toList st pos) (s.data.toList.drop pos)=(closeSpans s (spansFromP iJ s f pos st acc)).map (λp => pieceU s.data.toList p.1 p.2)
  | 0,pos,st,acc,h,hp,hst => by
    obtain rfl:pos=s.size:=by omega
    have hd:s.data.toList.drop s.size=[]:=tT (by rw[<- size_eq]; exact aO _)
    rw[hd]
    cases st with
    | none => simp[spansFromP,closeSpans,openPiece,Gm]
    | some a =>
      have:= pieceU_ne s.data.toList a s.size (hst a rfl) (by rw[<- size_eq]; exact aO _)
      simp[spansFromP,closeSpans,openPiece,this,Gm]
  | f+1,pos,st,acc,h,hp,hst => by
    by_cases hlt:pos<s.size
    · have hw:=width_pos s pos
      have c:pos+(Utf8.decode s pos).2<=s.size:=by
        have:= decodeN_le_n' (s.size-pos) (s.get! pos).toNat (s.get! (pos+1)).toNat (s.get! (pos+2)).toNat (s.get! (pos+3)).toNat (by omega)
        rw[<- decode_at]at this
        omega
      have hsplit:s.data.toList.drop pos=(s.data.toList.drop pos).take (Utf8.decode s pos).2++s.data.toList.drop (pos+(Utf8.decode s pos).2):=by
        rw[<- List.drop_drop,List.take_append_drop]
      simp only [spansFromP,if_pos hlt]
      cases hsp:iJ (Utf8.decode s pos).1 with
      | true =>
        have hd:=hsp
        rw[decode_at]at hd
        obtain⟨hb,hw1⟩:=Mh _ _ _ _ _ hd
        rw[<- decode_at]at hw1
        have g:(s.data.toList.drop pos).take (Utf8.decode s pos).2=[32]:=by
          rw[hw1]
          have m:s.data.toList[pos]?= some 32:=by
            rw[Qx s pos hlt]
            congr 1
            exact UInt8.toNat_inj.1 (by rw[hb]; rfl)
          have n:pos<s.data.toList.length:=by rw[<- size_eq]; exact hlt
          rw[List.drop_eq_getElem_cons n]
          rw[dK n]at m
          simp[Option.some.inj m]
        rw[hsplit,g]
        simp only [if_true]
        cases st with
        | none =>
          have ih:=mg s f (pos+(Utf8.decode s pos).2) none acc (by omega) c (λa h => by cases h)
          simpa[openPiece,Gm]using ih
        | some a =>
          have l:=pieceU_ne s.data.toList a pos (hst a rfl) (by rw[<- size_eq]; omega)
          have ih:=mg s f (pos+(Utf8.decode s pos).2) none (acc++[(a,pos)]) (by omega) c (λa h => by cases h)
          simpa[openPiece,l,Gm]using ih
      | false =>
        have hd:=hsp
        rw[decode_at]at hd
        have k:=Tu _ _ _ _ _ hd
        rw[<- decode_at]at k
        have i:(32:UInt8)∉(s.data.toList.drop pos).take (Utf8.decode s pos).2:=by
          refine Qy s pos _ c (λj d => ?_)
          obtain⟨n0,n1,n2,n3,n4⟩:=k
          match j,d with
          | 0,_ => exact n0
          | 1,d => exact n1 d
          | 2,d => exact n2 d
          | 3,d => exact n3 d
          | j+4,d => omega
        conv => lhs; rw[hsplit]
        rw[Kg _ _ _ i]
        simp only [Bool.false_eq_true,if_false]
        cases st with
        | none =>
          have ih:=mg s f (pos+(Utf8.decode s pos).2) (some pos) acc (by omega) c (λa h => by cases h; omega)
          have e:([]:List UInt8)++(s.data.toList.drop pos).take (Utf8.decode s pos).2=pieceU s.data.toList pos (pos+(Utf8.decode s pos).2):=by
            unfold pieceU
            rw[List.nil_append,Nat.add_sub_cancel_left]
          simp only [openPiece]at ih ⊢
          rw[e]
          exact ih
        | some a =>
          have ih:=mg s f (pos+(Utf8.decode s pos).2) (some a) acc (by omega) c (λb h => by cases h; have:= hst a rfl; omega)
          simp only [openPiece]at ih ⊢
          rw[pieceU_grow _ _ _ _ (Nat.le_of_lt (hst a rfl))]
          exact ih
    · obtain rfl:pos=s.size:=by omega
      have hd:s.data.toList.drop s.size=[]:=tT (by rw[<- size_eq]; exact aO _)
      rw[hd,spansFromP_end _ s _ _ _ _ hlt]
      cases st with
      | none => simp[closeSpans,openPiece,Gm]
      | some a =>
        have:= pieceU_ne s.data.toList a s.size (hst a rfl) (by rw[<- size_eq]; exact aO _)
        simp[closeSpans,openPiece,this,Gm]
theorem Qz(s:List UInt8):aH s=Gm [] s:=by
  have h:=mg ⟨s.toArray⟩ (ByteArray.size ⟨s.toArray⟩) 0 none [] (by omega) (gy _) (λa h => by cases h)
  simp only [List.map_nil,List.nil_append,openPiece,List.drop_zero]at h
  unfold aH goFieldsP spansOfP
  rw[List.map_map]
  refine Eq.trans ?_ h.symm
  congr 1
  funext p
  simp[pieceU]
def lH(c:UInt8):List UInt8->List (List UInt8)
  | [] => [[]]
  | x :: t => if x=c then [] :: lH c t else match lH c t with
    | [] => [[x]]
    | y :: r => (x :: y) :: r
theorem uK(c:UInt8)(t:List UInt8):lH c t≠[]:=by
  cases t with
  | nil => simp[lH]
  | cons x t => unfold lH; split; · simp
                split <;> simp
theorem FL(c:UInt8):∀ (t:List UInt8),c∉t->lH c t=[t]
  | [],_ => rfl
  | x :: t,h => by
    have a:x≠c:=λe => h (by simp[e])
    rw[lH,if_neg a,FL c t (λe => h (by simp[e]))]
theorem QA(c:UInt8):∀ (a r:List UInt8),c∉a->lH c (a++c :: r)=a :: lH c r
  | [],r,_ => by simp[lH]
  | x :: a,r,h => by
    have b:x≠c:=λe => h (by simp[e])
    rw[List.cons_append,lH,if_neg b,QA c a r (λe => h (by simp[e]))]
theorem y5(c:UInt8):∀ (k:Nat) (s:List UInt8),s.count c=k->splitK [c] 0 k s=lH c s
  | 0,s,h => by rw[FL c s (List.count_eq_zero.1 h)]; rfl
  | k+1,s,h => by
    have d:c∈s:=List.count_pos_iff.1 (by omega)
    obtain⟨a,r,rfl,ha⟩:=List.eq_append_cons_of_mem d
    have e:index (a++c :: r) [c]=a.length:=by rw[index_one,jT a r c ha]
    rw[QA c a r ha]
    unfold splitK
    rw[e,if_neg (by simp)]
    have g:r.count c=k:=by
      rw[List.count_append,List.count_cons_self,List.count_eq_zero.2 ha]at h
      omega
    have f:(a++c :: r).take (((a.length:Nat):Int).toNat+0)=a:=by simp
    have b:(a++c :: r).drop (((a.length:Nat):Int).toNat + [c].length)=r:=by
      rw[List.drop_append]
      simp
    rw[f,b,y5 c k r g]
theorem CW:∀ (s cur:List UInt8),Gm cur s=(match lH 32 s with | [] => [] | y :: r => (cur++y) :: r).filter (λy => decide (y≠[]))
  | [],cur => by
    unfold Gm lH
    by_cases h:cur=[] <;> simp[h]
  | x :: t,cur => by
    unfold Gm lH
    by_cases hx:x=32
    · rw[if_pos hx,if_pos hx,CW t []]
      cases hp:lH 32 t with
      | nil => exact absurd hp (uK _ _)
      | cons y r => by_cases h:cur=[] <;> simp[h]
    · rw[if_neg hx,if_neg hx,CW t (cur++[x])]
      cases hp:lH 32 t with
      | nil => exact absurd hp (uK _ _)
      | cons y r => simp
theorem Mi(s:List UInt8):aH s=(lH 32 s).filter (λy => decide (y≠[])):=by
  rw[Qz,CW]
  cases hp:lH 32 s with
  | nil => exact absurd hp (uK _ _)
  | cons y r => simp
theorem Bz(c:UInt8)(s:List UInt8):(Lib.splitB ⟨#[c]⟩ 0 (Lib.countB ⟨s.toArray⟩ ⟨#[c]⟩) ⟨s.toArray⟩).map Value.string=(lH c s).map sV:=by
  have d:=splitB_data ⟨#[c]⟩ 0 (Lib.countB ⟨s.toArray⟩ ⟨#[c]⟩) ⟨s.toArray⟩
  have a:splitK [c] 0 (Lib.countB ⟨s.toArray⟩ ⟨#[c]⟩) s=lH c s:=by
    refine y5 c _ s ?_
    show s.count c=Lib.count s [c]
    rw[count_one]
  have b:(Lib.splitB ⟨#[c]⟩ 0 (Lib.countB ⟨s.toArray⟩ ⟨#[c]⟩) ⟨s.toArray⟩).map (·.data.toList)=lH c s:=d.trans a
  rw[<- b,List.map_map]
  rfl
theorem BA(c:UInt8)(s:List UInt8):Lib.countB ⟨s.toArray⟩ ⟨#[c]⟩+1=(lH c s).length:=by
  have h:=congrArg List.length (Bz c s)
  rw[List.length_map,List.length_map,splitB_all ⟨#[c]⟩ (aO 1) 0 _ _ rfl]at h
  exact h
theorem Ki(t:List UInt8):lH 10 t=fq t:=by
  induction t with
  | nil => rfl
  | cons x t ih =>
    unfold lH fq
    rw[ih]
    by_cases hx:x=10
    · rw[if_pos hx,if_pos hx]
    · rw[if_neg hx,if_neg hx]
      cases fq t <;> rfl
theorem FM(c:UInt8):∀ a:List UInt8,lH c (a++[c])=lH c a++[[]]
  | [] => by simp[lH]
  | x :: a => by
    rw[List.cons_append]
    unfold lH
    rw[FM c a]
    by_cases hx:x=c
    · rw[if_pos hx,if_pos hx]; rfl
    · rw[if_neg hx,if_neg hx]
      cases hp:lH c a with
      | nil => exact absurd hp (uK _ _)
      | cons y r => rfl
theorem FN(c y:UInt8)(b:y≠c):∀ a:List UInt8,∃ p q,lH c (a++[y])=p++[q++[y]]
  | [] => ⟨[],[],by simp[lH,b]⟩
  | x :: a => by
    obtain⟨p,q,h⟩:=FN c y b a
    rw[List.cons_append]
    unfold lH
    rw[h]
    by_cases hx:x=c
    · rw[if_pos hx]; exact⟨[] :: p,q,rfl⟩
    · rw[if_neg hx]
      cases p with
      | nil => exact⟨[],x :: q,rfl⟩
      | cons z p => exact⟨(x :: z) :: p,q,rfl⟩
theorem Mj(t:List UInt8):fq (Lib.trimSuffix t [10])=(if 1<(lH 10 t).length/\(lH 10 t).getLast? = some []then (lH 10 t).dropLast else lH 10 t):=by
  rcases List.eq_nil_or_concat t with rfl | ⟨a,y,rfl⟩
  · rfl
  · rw[List.concat_eq_append]
    by_cases hy:y=10
    · subst hy
      have b:Lib.trimSuffix (a++[10]) [10]=a:=by
        unfold Lib.trimSuffix Lib.hasSuffix
        rw[if_pos (List.isSuffixOf_iff_suffix.2 ⟨a,rfl⟩)]
        simp
      rw[b,FM,<- Ki]
      have hl:0<(lH 10 a).length:=List.length_pos_iff.2 (uK _ _)
      rw[if_pos ⟨by simp; omega,by simp⟩]
      simp
    · have b:Lib.trimSuffix (a++[y]) [10]=a++[y]:=by
        unfold Lib.trimSuffix Lib.hasSuffix
        rw[if_neg]
        intro h
        obtain⟨p,hp⟩:=List.isSuffixOf_iff_suffix.1 h
        have:= congrArg List.getLast? hp
        simp at this
        exact hy this.symm
      obtain⟨p,q,h⟩:=FN 10 y hy a
      rw[b,<- Ki,if_neg]
      rw[h]
      simp
end
section
open Go.Joins
structure DH(w0:World)(a d:Nat)(rs:RS)(f P:Nat->Prop)(n:Nat)(st:Sx)(W:World):Prop where
 blk:W.heap[a]?=some (.cells #[.pointer (some ⟨d,0,none⟩)] 155)
 eng:RE d rs f W
 like:dN n st rs
 np:¬f a
 all:∀k,P k↔(f k∨k=a)
 low:Below w0.heap.size w0 W
 ge:∀k,P k->w0.heap.size<=k
def DHs(w0:World)(a n:Nat)(st:Sx)(P:Nat->Prop)(W:World):Prop:=∃d rs f,DH w0 a d rs f P n st W
def eu(w0:World)(a n:Nat)(st:Sx)(P:Nat->Prop)(W i:World):Prop:=∃P',DHs w0 a n st P' i/\Turned P W i/\∀k,P' k->P k∨W.heap.size<=k
section
variable{w0:World}{a d n m:Nat}{rs:RS}{st j:Sx}{f P:Nat->Prop}{W l i:World}
theorem DH.lt(h:DH w0 a d rs f P n st W):a<W.heap.size:=(aD.1 h.blk).1
theorem DH.plt(h:DH w0 a d rs f P n st W):∀k,P k->k<W.heap.size:=λk b=>by
 rcases(h.all k).1 b with g|g
 .exact h.eng.plt k g
 .rw[g];exact h.lt
theorem DH.cell(h:DH w0 a d rs f P n st W):W.cell? ⟨a,0,none⟩=some (.pointer (some ⟨d,0,none⟩))/\W.frozen? ⟨a,0,none⟩=false:=by
 refine⟨?_,x9 h.blk 0⟩;rw[vE h.blk];rfl
theorem DH.below(h:DH w0 a d rs f P n st W)(b:Below W.heap.size W l):DH w0 a d rs f P n st l:=
 ⟨(b.block a h.lt).trans h.blk,h.eng.below b,h.like,h.np,h.all,h.low.trans (b.mono h.low.size),h.ge⟩
theorem DH.more(h:DH w0 a d rs f P n st W)(b:n<=m):DH w0 a d rs f P m st W:=⟨h.blk,h.eng,h.like.more b,h.np,h.all,h.low,h.ge⟩
theorem DH.same(h:DH w0 a d rs f P n st W)(b:Below W.heap.size W i):eu w0 a (n+1) st P W i:=
 ⟨P,⟨d,rs,f,(h.below b).more (by omega)⟩,Turned.of_below b,λ_ e=>.inl e⟩
theorem DH.goes(h:DH w0 a d rs f P n st W)(r:Ol d m j f W i):eu w0 a m j P W i:=by
 obtain⟨rs',Mk,q,p,o,b⟩:=r;have c:Turned P W i:=o.mono (λk e=>(h.all k).2 (.inl e));refine⟨λk=>Mk k∨k=a,⟨d,rs',Mk,⟨(o.block a h.lt h.np).trans h.blk,q,p,λe=>?_,λ_=>Iff.rfl,ja h.low c h.ge,λk e=>?_⟩⟩,c,λk e=>?_⟩
 .rcases b a e with g|g
  .exact h.np g
  .have:=h.lt;omega
 .rcases e with e|e
  .rcases b k e with g|g
   .exact h.ge k ((h.all k).2 (.inl g))
   .have:=h.low.size;omega
  .exact h.ge k ((h.all k).2 (.inr e))
 .rcases e with e|e
  .exact(b k e).imp (λg=>(h.all k).2 (.inl g)) id
  .exact .inl ((h.all k).2 (.inr e))
theorem eu.go(h:eu w0 a n st P W l)(b:Below l.heap.size l i):eu w0 a n st P W i:=by
 obtain⟨o,⟨d,rs,f,k⟩,c,g⟩:=h;exact⟨o,⟨d,rs,f,k.below b⟩,c.trans (Turned.of_below (S:=λ_=>False) b) (λ_ _ e=>e.elim),g⟩
theorem DH.taken(h:DH w0 a d rs f P n st W){g:Nat}{rs':RS}{Mk:Nat->Prop}(s:Below W.heap.size W l)(v:RE g rs' Mk l)(p:∀k,Mk k->W.heap.size<=k)(t:dN m j rs'):eu w0 a m j P W (l.setCell ⟨a,0,none⟩ (.pointer (some ⟨g,0,none⟩))):=by
 have u:=h.below s
 have c:¬Mk a:=λe=>by have:=p a e;have:=h.lt;omega
 have q:∀k,k≠a->(l.setCell ⟨a,0,none⟩ (.pointer (some ⟨g,0,none⟩))).heap[k]?=l.heap[k]? :=λk e=>zw _ _ _ _ e
 have r:Turned P W (l.setCell ⟨a,0,none⟩ (.pointer (some ⟨g,0,none⟩))):=(Turned.of_below (S:=P) s).trans (bC (b:=a) (o:=0)) (λk _ e=>(h.all k).2 (.inr e));refine⟨λk=>Mk k∨k=a,⟨g,rs',Mk,⟨?_,v.still (λk e=>q k (λw=>c (w ▸ e))),t,c,λ_=>Iff.rfl,ja h.low r h.ge,λk e=>?_⟩⟩,r,λk e=>?_⟩
 .rw[yc u.blk];rfl
 .rcases e with e|e
  .have:=p k e;have:=h.low.size;omega
  .exact h.ge k ((h.all k).2 (.inr e))
 .rcases e with e|e
  .exact .inr (p k e)
  .exact .inl ((h.all k).2 (.inr e))
end
def eB(w0:World)(a n:Nat)(j:Sx)(P:Nat->Prop)(W:World)(c:Int)(tx:List UInt8)(e:Ending)(i:World):Prop:=
 ∃t,e=.returned (.tuple #[sV t,.int .i64 c])/\(c=0->t=tx)/\eu w0 a n j P W i
theorem V9{w0:World}{a d n:Nat}{rs:RS}{st:Sx}{f P:Nat->Prop}{W:World}(h:DH w0 a d rs f P n st W)(e:Value):
  Calls Tryz.prog 81 #[.pointer (some ⟨a,0,none⟩),.string ⟨#[104,101,108,112]⟩,e] W (eB w0 a (n+1) st P W 0 BX):=by
 have hc:=h.cell.1;have hlt:=h.lt
 have b:Hid (∀i,Below W.heap.size W i->eu w0 a (n+1) st P W i):=λi c=>h.same c
 clear h;go_enter Tryz.func81,Tryz.ntmps81;go_wp2;go_ret2;exact⟨_,rfl,λ_=>rfl,b.out _ (zI _ _)⟩
end
section
open Go.Proofs.Tryz
variable{W:World}{a:Nat}{l:List UInt8}
def qP:DataW Value:=((((((((((((((DataW.map []).put (.string [102,101,100]) (.held (.int .i64 0))).put (.string [103,114,111,117,112,115]) (.held (.int .i64 0))).put (.string [104,101,108,100]) (.held (.int .i64 0))).put (.string [104,101,108,112]) (.held (.int .i64 0))).put (.string [108,97,116,101]) (.held (.int .i64 0))).put (.string [108,101,102,116]) (.held (.int .i64 3))).put (.string [109,97,114,107]) (.held (.int .i64 2))).put (.string [109,97,114,107,115]) (.held (.int .i64 0))).put (.string [112,108,97,110]) (.held (.int .i64 3))).put (.string [114,101,108,111,97,100]) (.held (.int .i64 0))).put (.string [114,105,103,104,116]) (.held (.int .i64 3))).put (.string [115,97,118,101,100]) (.held (.int .i64 0))).put (.string [118,105,101,119]) (.held (.int .i64 0)))
def CX(W:World)(a:Nat):Prop:=W.ownsMap prog 9 zA a 13 qP
theorem CX.still{b:World}(h:CX W a)(f:b.heap[a]?=W.heap[a]?):CX b a:=by
 obtain⟨g,c,e,d⟩:=h;exact⟨g,c,f.trans e,d⟩
theorem CX.lt(h:CX W a):a<W.heap.size:=by
 obtain⟨es,c,b,h2⟩:=h;exact(aD.1 b).1
theorem Wd(w:World):(zeroValue 3).run prog w=.ok (.int .i64 0) w:=by kernel_rfl
theorem We(v:Vb):qP.atKey (.string v.word) (.held (.int .i64 0))=.held (.int .i64 v.ar)/\Maps.has qP (.string v.word)=true:=by
 cases v <;>exact⟨by kernel_rfl,by kernel_rfl⟩
theorem Tv(h:dM l=none):qP.atKey (.string l) (.held (.int .i64 0))=.held (.int .i64 0)/\Maps.has qP (.string l)=false:=by
 unfold dM at h
 by_cases h0:l=[112,108,97,110]
 .rw[if_pos h0]at h;cases h
 rw[if_neg h0]at h
 by_cases h1:l=[108,101,102,116]
 .rw[if_pos h1]at h;cases h
 rw[if_neg h1]at h
 by_cases h2:l=[114,105,103,104,116]
 .rw[if_pos h2]at h;cases h
 rw[if_neg h2]at h
 by_cases h3:l=[109,97,114,107]
 .rw[if_pos h3]at h;cases h
 rw[if_neg h3]at h
 by_cases h4:l=[109,97,114,107,115]
 .rw[if_pos h4]at h;cases h
 rw[if_neg h4]at h
 by_cases h5:l=[104,101,108,100]
 .rw[if_pos h5]at h;cases h
 rw[if_neg h5]at h
 by_cases h6:l=[102,101,100]
 .rw[if_pos h6]at h;cases h
 rw[if_neg h6]at h
 by_cases h7:l=[108,97,116,101]
 .rw[if_pos h7]at h;cases h
 rw[if_neg h7]at h
 by_cases h8:l=[118,105,101,119]
 .rw[if_pos h8]at h;cases h
 rw[if_neg h8]at h
 by_cases h9:l=[103,114,111,117,112,115]
 .rw[if_pos h9]at h;cases h
 rw[if_neg h9]at h
 by_cases h10:l=[115,97,118,101,100]
 .rw[if_pos h10]at h;cases h
 rw[if_neg h10]at h
 by_cases h11:l=[114,101,108,111,97,100]
 .rw[if_pos h11]at h;cases h
 rw[if_neg h11]at h
 by_cases h12:l=[104,101,108,112]
 .rw[if_pos h12]at h;cases h
 rw[if_neg h12]at h;refine⟨?_,?_⟩
 .unfold qP;rw[Cr (by simpa using h8),Cr (by simpa using h10),Cr (by simpa using h2),Cr (by simpa using h11),Cr (by simpa using h0),Cr (by simpa using h4),Cr (by simpa using h3),Cr (by simpa using h1),Cr (by simpa using h7),Cr (by simpa using h12),Cr (by simpa using h5),Cr (by simpa using h9),Cr (by simpa using h6)];rfl
 .unfold qP;rw[BB (by simpa using h8),BB (by simpa using h10),BB (by simpa using h2),BB (by simpa using h11),BB (by simpa using h0),BB (by simpa using h4),BB (by simpa using h3),BB (by simpa using h1),BB (by simpa using h7),BB (by simpa using h12),BB (by simpa using h5),BB (by simpa using h9),BB (by simpa using h6)];rfl
theorem QB(h:CX W a)(i:l.length<=1000000):(Instr.lookup 152 (.map (some a)) (.string ⟨l.toArray⟩) true).run prog W=.ok (match dM l with|some v=>.tuple #[.int .i64 v.ar,.bool true]|none=>.tuple #[.int .i64 0,.bool false]) W:=by
 obtain⟨v,ps,b,d⟩:=h.look_ok tK underlying152 (Wd W) (zd:= .held (.int .i64 0)) (zp:=[]) rfl (R8 l i);simp only[zA,Option.some.injEq,Prod.mk.injEq]at d;obtain⟨d,_⟩:=d
 cases hq:dM l with
 |some q=>
  have e:=Cb hq;subst e;obtain⟨f,g⟩:=We q;have c:v=.int .i64 q.ar:=DataW.held.inj (d.trans f);rw[b,g,c]
 |none=>
  obtain⟨f,g⟩:=Tv hq;have c:v=.int .i64 0:=DataW.held.inj (d.trans f);rw[b,g,c]
theorem uL{b n:Nat}{D:DataW Value}(h:W.ownsMap prog 9 zA b n D)(hn:n<100)(l:List UInt8)(hs:l.length<=100)(k:Int):
  ∃c,(Instr.mapUpdate 152 (.map (some b)) (.string ⟨l.toArray⟩) (.int .i64 k)).run prog W=.ok () c/\c.ownsMap prog 9 zA b (n+1) (D.put (.string l) (.held (.int .i64 k)))/\W.grownBy c (some b):=
 h.update tK underlying152 (by unfold maxLen;omega) (R8 l (by omega)) rfl
end
section
open Go.Proofs.Tryz Go.Joins
variable{W w0:World}{d n f:Nat}{st:Sx}{P i:Nat->Prop}{rs:RS}
abbrev Three(g:Nat)(a b c:Int)(W:World):Prop:=W.cell? ⟨g,0,none⟩=some (.int .i64 a)/\W.cell? ⟨g,1,none⟩=some (.int .i64 b)/\W.cell? ⟨g,2,none⟩=some (.int .i64 c)
theorem vU{g:Nat}{a b c:Int}{k:World}(h:Three g a b c W)(j:g<W.heap.size)(e:Below W.heap.size W k):Three g a b c k:=
 ⟨(e.cell (p:=⟨g,0,none⟩) j).trans h.1,(e.cell (p:=⟨g,1,none⟩) j).trans h.2.1,(e.cell (p:=⟨g,2,none⟩) j).trans h.2.2⟩
theorem eu.first{V b:World}(h:eu w0 d n st P V b)(a:Below W.heap.size W V):eu w0 d n st P W b:=by
 obtain⟨m,l,c,j⟩:=h;exact⟨m,l,(Turned.of_below (S:=P) a).trans c (λ_ _ e=>e),λk e=>(j k e).imp id (λg=>di a.size g)⟩
theorem Wh(h:DH w0 d f rs i P n st W)(a b m:Int)(g c:Nat)(y:g<W.heap.size)(q:Three g a b m W):
  Calls prog 81 #[.pointer (some ⟨d,0,none⟩),.string ⟨#[112,108,97,110]⟩,.slice (some ⟨g,0,none⟩) 3 c] W (eB w0 d (n+1) (if aS a b m=0 then Sx.new a b m else st) P W (aS a b m) [112,108,97,110]):=by
 have cb:=h.cell.1;have hlt:=h.lt
 by_cases hp:aS a b m=0
 .rw[if_pos hp]
  have t:Hid (∀V,Below W.heap.size W V->Calls prog 14 #[.agg #[.int .i64 a,.int .i64 b,.int .i64 m]] V λe j=>∃l,e=.returned (.tuple #[.pointer (some ⟨l,0,none⟩),.int .i64 0])/\Three g a b m j/\(j.cell? ⟨d,0,none⟩=some (.pointer (some ⟨f,0,none⟩))/\j.frozen? ⟨d,0,none⟩=false/\d<j.heap.size)/\Hid (eu w0 d (n+1) (Sx.new a b m) P W (j.setCell ⟨d,0,none⟩ (.pointer (some ⟨l,0,none⟩))))):=by
   intro V p;refine(lN a b m V hp).mono ?_;rintro e j ⟨l,s,rfl,h1,u,A,x⟩;have o:Below W.heap.size W j:=p.trans (x.mono p.size);have v:=h.below o;refine⟨l,rfl,vU q y o,⟨v.cell.1,v.cell.2,v.lt⟩,?_⟩;refine h.taken (rs':=⟨yh a b m,[],0,0⟩) (Mk:=λk=>k=l∨k=s) o ⟨s,_,_,_,A,λk=>?_⟩ (λk e=>?_) (yj a b m (n+1))
   .simp[Value.ownBlock]
   .have:=p.size
    rcases e with e|e <;>omega
  have w:Hid (Below W.heap.size W W.drew):=(zI _ _).drew;rw[hp];clear h hp;go_enter func81,ntmps81;go_wp2
  go_region_held3 (λV=>Three g a b m V) (first|exact q|exact r|fail) (first
   |(go_at_call 14;refine(t.out _ w.out).mono ?_;rintro e z ⟨l,rfl,r,c3,u⟩)
   |fail)
  clear t q r;go_wp2;go_ret2;exact⟨_,rfl,λ_=>rfl,u.out⟩
 .rw[if_neg hp]
  have t:Hid (∀V,Below W.heap.size W V->Calls prog 14 #[.agg #[.int .i64 a,.int .i64 b,.int .i64 m]] V λe j=>e=.returned (.tuple #[.pointer none,.int .i64 (aS a b m)])/\Three g a b m j/\Hid (eu w0 d (n+1) st P W j)):=by
   intro V p;refine(oF a b m V hp).mono ?_;rintro e j ⟨rfl,x⟩;have o:Below W.heap.size W j:=p.trans (x.mono p.size);exact⟨rfl,vU q y o,h.same o⟩
  have w:Hid (Below W.heap.size W W.drew):=(zI _ _).drew
  have hp2:(aS a b m !=0)=true:=by simpa using hp
  clear h;generalize aS a b m=cc at *;go_enter func81,ntmps81;go_wp2
  go_region_held3 (λV=>Three g a b m V) (first|exact q|exact r|fail) (first
   |(go_at_call 14;refine(t.out _ w.out).mono ?_;rintro e z ⟨rfl,r,u⟩)
   |fail)
  clear t q r;go_wp2;go_ret2;exact⟨[],rfl,λe=>absurd e hp,u.out⟩
theorem Wi(h:DH w0 d f rs i P n st W)(A:dH n st)(B:n<=1600)(s tm:Int)(g c:Nat)(E:g<W.heap.size)(C:¬P g)(k:W.cell? ⟨g,0,none⟩=some (.int .i64 s)/\W.cell? ⟨g,1,none⟩=some (.int .i64 tm)):
  Calls prog 81 #[.pointer (some ⟨d,0,none⟩),.string ⟨#[109,97,114,107]⟩,.slice (some ⟨g,0,none⟩) 2 c] W (eB w0 d (n+1) (st.move s tm).2 P W (st.move s tm).1 [109,97,114,107]):=by
 have cb:=h.cell.1;have hlt:=h.lt;obtain⟨bj,v,v0,v1,l,q⟩:=h.eng;have c1:W.cell? ⟨f,0,none⟩=some (.pointer (some ⟨bj,0,none⟩))/\W.cell? ⟨g,0,none⟩=some (.int .i64 s)/\W.cell? ⟨g,1,none⟩=some (.int .i64 tm):=⟨oC l,k⟩;have hbe:=l.bag.lt
 have x:Hid (Calls prog 16 #[.pointer (some ⟨bj,0,none⟩),.int .i64 s,.int .i64 tm] W.drew λe b=>e=.returned (.int .i64 (st.move s tm).1)/\(b.cell? ⟨f,0,none⟩=some (.pointer (some ⟨bj,0,none⟩))/\b.cell? ⟨g,0,none⟩=some (.int .i64 s)/\b.cell? ⟨g,1,none⟩=some (.int .i64 tm))/\Hid (eu w0 d (n+1) (st.move s tm).2 P W b)):=by
  have m:Below W.heap.size W W.drew:=(zI _ _).drew;have r:=h.below m;refine(JQ (l.below m) q h.like A B s tm).mono ?_;rintro e b ⟨rfl,y,rs',Mk,w,o,p,u⟩;have t:Ol f (n+1) (st.move s tm).2 i W.drew b:=⟨rs',Mk,w,o.more (by omega),p,u⟩;have j:b.heap[g]?=W.heap[g]? :=p.block g E (λe=>C ((h.all g).2 (.inl e)));exact⟨rfl,⟨y,(World.cell?_of_block (a:=⟨g,0,none⟩) j).trans k.1,(World.cell?_of_block (a:=⟨g,1,none⟩) j).trans k.2⟩,(r.goes t).first m⟩
 clear h l q k;generalize(st.move s tm).2=st' at *;generalize(st.move s tm).1=cc at *;go_enter func81,ntmps81;go_wp2
 go_region_held3 (λV=>V.cell? ⟨f,0,none⟩=some (.pointer (some ⟨bj,0,none⟩))/\V.cell? ⟨g,0,none⟩=some (.int .i64 s)/\V.cell? ⟨g,1,none⟩=some (.int .i64 tm)) (first|exact c1|exact z|fail) (first
  |(go_at_call 16;refine x.out.mono ?_;rintro e w2 ⟨rfl,z,o⟩)
  |fail)
 go_wp2;go_ret2;exact⟨_,rfl,λ_=>rfl,o.out⟩
theorem Tx(h:DH w0 d f rs i P n st W)(j:dH n st)(_hn:n<=1600)(o:aU w0)(r:Value):
  Calls prog 81 #[.pointer (some ⟨d,0,none⟩),.string ⟨#[109,97,114,107,115]⟩,r] W (eB w0 d (n+1) st P W 0 (aa [st.x.m0,st.x.m1])):=by
 have cb:=h.cell.1;have hlt:=h.lt;have a0:=j.m0;have a1:=j.m1;obtain⟨bj,v,v0,v1,b,s⟩:=h.eng;have cj:=oC b;have hbe:=b.bag.lt;have c:=b.join.lt
 have t:Hid (Calls prog 54 #[.slice (some ⟨bj,5,none⟩) 2 2] W λe m=>e=.returned (.string ⟨(aa [st.x.m0,st.x.m1]).toArray⟩)/\Hid (eu w0 d (n+1) st P W m)):=by
  refine(jW [st.x.m0,st.x.m1] bj 5 2 W (o.below h.low).g.tab (ku ⟨by omega,by omega⟩ ⟨by omega,by omega⟩) c (λk q a=>?_) (by simp)).mono λe m l=>⟨l.1,h.same l.2⟩
  match k,a with
  |0,a=>simp at a;subst a;rw[vE b.join.blk,<-h.like.m0];rfl
  |1,a=>simp at a;subst a;rw[vE b.join.blk,<-h.like.m1];rfl
  |k+2,a=>simp at a
 clear h b s j o;go_enter func81,ntmps81
 go_wp2_with (first
  |(go_at_call 54;refine t.out.mono ?_;rintro e w2 ⟨rfl,p⟩)
  |fail)
 go_ret2;exact⟨_,rfl,λ_=>rfl,p.out⟩
theorem Yu(h:DH w0 d f rs i P n st W)(j:dH n st)(_hn:n<=1600)(o:aU w0)(r:Value):
  Calls prog 81 #[.pointer (some ⟨d,0,none⟩),.string ⟨#[102,101,100]⟩,r] W (eB w0 d (n+1) st P W 0 (aa [st.f0,st.f1])):=by
 have cb:=h.cell.1;have hlt:=h.lt;have a0:=j.f0;have a1:=j.f1;obtain⟨bj,v,v0,v1,b,s⟩:=h.eng;have c:=b.bag.lt
 have t:Hid (Calls prog 54 #[.slice (some ⟨f,2,none⟩) 2 2] W λe m=>e=.returned (.string ⟨(aa [st.f0,st.f1]).toArray⟩)/\Hid (eu w0 d (n+1) st P W m)):=by
  refine(jW [st.f0,st.f1] f 2 2 W (o.below h.low).g.tab (ku ⟨by omega,by omega⟩ ⟨by omega,by omega⟩) c (λk q a=>?_) (by simp)).mono λe m l=>⟨l.1,h.same l.2⟩
  match k,a with
  |0,a=>simp at a;subst a;rw[vE b.bag.blk,<-h.like.f0];rfl
  |1,a=>simp at a;subst a;rw[vE b.bag.blk,<-h.like.f1];rfl
  |k+2,a=>simp at a
 clear h b s j o;go_enter func81,ntmps81
 go_wp2_with (first
  |(go_at_call 54;refine t.out.mono ?_;rintro e w2 ⟨rfl,p⟩)
  |fail)
 go_ret2;exact⟨_,rfl,λ_=>rfl,p.out⟩
theorem Wj(h:DH w0 d f rs i P n st W)(l:dH n st)(_hn:n<=1600)(k:aU w0)(o:Value):
  Calls prog 81 #[.pointer (some ⟨d,0,none⟩),.string ⟨#[108,97,116,101]⟩,o] W (eB w0 d (n+1) st P W 0 (Lib.itoa st.x.late)):=by
 have cb:=h.cell.1;have hlt:=h.lt;have a0:=l.late;obtain⟨bj,v,v0,v1,a,p⟩:=h.eng;have cj:=oC a;have hbe:=a.bag.lt;have hbj:=a.join.lt
 have cl:W.cell? ⟨bj,7,none⟩=some (.int .i64 st.x.late):=by rw[vE a.join.blk,<-h.like.late];rfl
 have q:Hid (Calls prog 54 #[.slice (some ⟨W.heap.size,0,none⟩) 1 1] (W.alloc (.cells #[.int .i64 st.x.late] 3)) λe j=>e=.returned (.string ⟨(Lib.itoa st.x.late).toArray⟩)/\Hid (eu w0 d (n+1) st P W j)):=by
  have b:Below W.heap.size W (W.alloc (.cells #[.int .i64 st.x.late] 3)):=wh _ _;have:=fB [st.x.late] (yX ⟨by omega,by omega⟩) (by simp) w0 k.g.tab W.heap.size _ (h.below b).low (vw W _);rw[jw]at this
  exact this.mono λe j c=>⟨c.1,h.same (b.trans (c.2.mono b.size))⟩
 clear h a p l k;go_enter func81,ntmps81
 go_wp2_with (first
  |(go_at_call 54;refine q.out.mono ?_;rintro e w2 ⟨rfl,m⟩)
  |fail)
 go_ret2;exact⟨_,rfl,λ_=>rfl,m.out⟩
theorem Wl(h:DH w0 d f rs i P n st W)(r:dH n st)(_hn:n<=1600)(u:aU w0)(B:Value):
  Calls prog 81 #[.pointer (some ⟨d,0,none⟩),.string ⟨#[104,101,108,100]⟩,B] W (eB w0 d (n+1) st P W 0 (aa [st.x.R0.length,st.x.R1.length])):=by
 have cb:=h.cell.1;have hlt:=h.lt;have a0:=r.l0;have a1:=r.l1;have t:=h.like.r0.len;have w:=h.like.r1.len;obtain⟨bj,v,v0,v1,b,z⟩:=h.eng;have m:=b.bag.lt;have c:=b.join.lt;obtain⟨l,d0,f0⟩:=aj b.join.r0;obtain⟨s,d1,f1⟩:=aj b.join.r1
 have c1:W.cell? ⟨f,0,none⟩=some (.pointer (some ⟨bj,0,none⟩))/\W.cell? ⟨bj,3,none⟩=some (.slice l st.x.R0.length d0)/\W.cell? ⟨bj,4,none⟩=some (.slice s st.x.R1.length d1):=by
  refine⟨oC b,?_,?_⟩
  .rw[vE b.join.blk,f0,t];rfl
  .rw[vE b.join.blk,f1,w];rfl
 have y:Hid (∀V,Below W.heap.size W V->V.cell? ⟨f,0,none⟩=some (.pointer (some ⟨bj,0,none⟩))/\V.cell? ⟨bj,3,none⟩=some (.slice l st.x.R0.length d0)/\V.cell? ⟨bj,4,none⟩=some (.slice s st.x.R1.length d1)):=λV a=>⟨(a.cell (p:=⟨f,0,none⟩) m).trans c1.1,(a.cell (p:=⟨bj,3,none⟩) c).trans c1.2.1,(a.cell (p:=⟨bj,4,none⟩) c).trans c1.2.2⟩
 have C:Hid (∀g V,Below W.heap.size W V->V.heap[g]?=some (.cells #[.int .i64 st.x.R0.length,.int .i64 st.x.R1.length] 3)->Calls prog 54 #[.slice (some ⟨g,0,none⟩) 2 2] V λe q=>e=.returned (.string ⟨(aa [(st.x.R0.length:Int),st.x.R1.length]).toArray⟩)/\Below W.heap.size W q/\Hid (eu w0 d (n+1) st P W q)):=λg V a E=>by
  refine(fB [(st.x.R0.length:Int),st.x.R1.length] (ku ⟨by omega,by omega⟩ ⟨by omega,by omega⟩) (by simp) w0 u.g.tab g V (h.below a).low E).mono λe q o=>⟨o.1,a.trans (o.2.mono a.size),h.same (a.trans (o.2.mono a.size))⟩
 have j:Hid (Below W.heap.size W W.drew):=(zI _ _).drew;clear h b z r u t w f0 f1;go_enter func81,ntmps81;go_wp2
 go_region_held3 (λV=>V.cell? ⟨f,0,none⟩=some (.pointer (some ⟨bj,0,none⟩))/\V.cell? ⟨bj,3,none⟩=some (.slice l st.x.R0.length d0)/\V.cell? ⟨bj,4,none⟩=some (.slice s st.x.R1.length d1)) (first|exact c1|exact y.out _ (j.out.alloc j.out.size _)|exact y.out _ k|fail) (first
  |(go_at_call 54;refine(C.out _ _ ?_ ?_).mono ?_;(exact j.out.alloc j.out.size _);(exact vw _ _);rintro e w2 ⟨rfl,k,A⟩)
  |fail)
 go_wp2;go_ret2;exact⟨_,rfl,λ_=>rfl,A.out⟩
end
section
open Go.Proofs.Tryz Go.Joins
variable{w0 W V:World}{b n f:Nat}{st:Sx}{P i:Nat->Prop}{rs:RS}
def fC(C:List Ch):List UInt8:=[102,101,100]++C.flatMap (λc=>[44,32]++dG c)
theorem FO(C:List Ch):Lib.join ([102,101,100]::C.map dG) [44,32]=fC C:=by
 rw[Lib.join_cons];unfold fC Lib.joinTail;congr 1
 induction C with
 |nil=>rfl
 |cons c C ih=>simp only[List.map_cons,List.flatten_cons,List.flatMap_cons,ih]
theorem FP(C:List Ch)(q:Nat)(c:Ch)(h:C[q]?=some c):fC (C.take (q+1))=fC (C.take q)++([44,32]++dG c):=by
 unfold fC;rw[List.take_add_one,h];simp
theorem Kj(C:List Ch)(h:∀c∈C,Fits c.x):(fC C).length<=3+C.length*115:=by
 unfold fC;rw[List.length_append]
 have:(C.flatMap (λc=>[44,32]++dG c)).length<=C.length*115:=by
  induction C with
  |nil=>simp
  |cons c C ih=>
   have h1:=nT c (h c (by simp));have a:=ih (λd hd=>h d (by simp[hd]));rw[List.flatMap_cons];simp only[List.length_append,List.length_cons,List.length_nil]at a⊢;omega
 simp only[List.length_cons,List.length_nil];omega
structure DC(w0:World)(b n:Nat)(st:Sx)(P:Nat->Prop)(W:World)(C:List Ch)(vx:Value)(V:World):Prop where
 nx:eu w0 b n st P W V
 row:V.ownsRow W.heap.size 95 10 vx C.length (C.flatMap aQ)
theorem DC.go{C:List Ch}{vx:Value}{a:World}(h:DC w0 b n st P W C vx V)(c:Below V.heap.size V a):DC w0 b n st P W C vx a:=
 ⟨h.nx.go c,ag h.row (λg e=>c.block g (h.row.lt g e).2)⟩
theorem eu.low(h:eu w0 b n st P W V):Below w0.heap.size w0 V:=by
 obtain⟨P',⟨f,rs,i,a⟩,_⟩:=h;exact a.low
theorem aaP(h:DH w0 b f rs i P n st W)(hG:aU w0)(s H:Int)(j:Sx)(C:List Ch)(E:List UInt8)(nm:ByteArray)(k t u:Int)(g c:Nat)(hg:g<W.heap.size)(pq:¬P g)(B:Three g k t u W)(hd:∀V,RE f rs i V->Calls prog 10 #[.pointer (some ⟨f,0,none⟩),.int .i64 s,.agg #[.int .i64 k,.int .i64 t,.int .i64 u]] V λe l=>∃vx,e=.returned (.tuple #[vx,.int .i64 H])/\l.ownsRow V.heap.size 95 10 vx C.length (C.flatMap aQ)/\Ol f (n+1) j i V l)(F:(∀c∈C,Fits c.x)/\C.length<=1000)(w:H=0->fC C=E)(hs:s=0/\nm=⟨#[108,101,102,116]⟩∨s=1/\nm=⟨#[114,105,103,104,116]⟩):
  Calls prog 81 #[.pointer (some ⟨b,0,none⟩),.string nm,.slice (some ⟨g,0,none⟩) 3 c] W (eB w0 b (n+1) j P W H E):=by
 have cb:=h.cell.1;have hlt:=h.lt
 have HF:Hid (Calls prog 10 #[.pointer (some ⟨f,0,none⟩),.int .i64 s,.agg #[.int .i64 k,.int .i64 t,.int .i64 u]] W.drew λe l=>∃m p,e=.returned (.tuple #[.slice m C.length p,.int .i64 H])/\Three g k t u l/\Hid (DC w0 b (n+1) j P W C (.slice m C.length p) l)):=by
  have G:Below W.heap.size W W.drew:=(zI _ _).drew;have hD:=h.below G;refine(hd _ hD.eng).mono ?_;rintro e l ⟨vx,rfl,h1,hR⟩
  have r:l.heap[g]?=W.heap[g]? :=by
   obtain⟨rs',Mk,_,_,h3,_⟩:=hR;exact h3.block g hg (λe=>pq ((h.all g).2 (.inl e)))
  obtain⟨m,p,rfl⟩:=aj h1;exact⟨m,p,rfl,⟨(World.cell?_of_block (a:=⟨g,0,none⟩) r).trans B.1,(World.cell?_of_block (a:=⟨g,1,none⟩) r).trans B.2.1,(World.cell?_of_block (a:=⟨g,2,none⟩) r).trans B.2.2⟩,⟨(hD.goes hR).first G,h1⟩⟩
 have Wo:=hid hG.g.tab;have U:=hid F;have M:=hid w;clear h hG pq hd F w;have Ud:=U.out.2
 rcases hs with⟨rfl,rfl⟩|⟨rfl,rfl⟩
 case' inl=>have z:=hid (jF false)
 case' inr=>have z:=hid (jF true)
 all_goals
  go_enter func81,ntmps81
  go_wp2_with (first
   |(go_at_call 56;refine(z.out _).mono ?_;rintro e w1 ⟨rfl,S⟩;have S:=S.symm;subst S)
   |fail)
  go_region_held3 (λV=>Three g k t u V) (first|exact B|exact c2|fail) (first
   |(go_at_call 10;refine HF.out.mono ?_;rintro e w2 ⟨m,p,rfl,c2,h2⟩)
   |fail)
  clear HF B c2;go_wp2_with fail
  have T0:(.string ⟨#[102,101,100]⟩:Value)=.string ⟨(fC (C.take 0)).toArray⟩:=by simp[fC]
  go_loopg [14,80] C.length (λgg T R wr=>∃q:Nat,q<=C.length/\gg=C.length -q/\R=.int .i64 q/\T=.string ⟨(fC (C.take q)).toArray⟩/\Hid (DC w0 b (n+1) j P W C (.slice m C.length p) wr))
  case atStart=>exact⟨0,gy _,rfl,rfl,T0,h2⟩
  case round=>
   obtain⟨q,hq,v,rfl,rfl,I⟩:=hrel;have HG:=hid v;clear v h2 T0
   by_cases uD:q<C.length
   .obtain⟨Z,A⟩:∃Z,m=some ⟨Z,0,none⟩:=by
     obtain⟨g,cg,e⟩:=yg I.out.row (by omega)
     injection e with A
     exact⟨g,A⟩
    subst A;obtain⟨y,hy⟩:∃y,C[q]?=some y:=⟨_,dK uD⟩;have ch:=CP I.out.row rfl hy;have HK:Hid (fC (C.take (q+1))=fC (C.take q)++([44,32]++dG y)):=FP C q y hy;have N:=U.out.1 y (mh hy);have K:=iY y.x N;have Q:=Kj (C.take q) (λd hd=>U.out.1 d (List.mem_of_mem_take hd));have Y:=ve q C
    have L:Hid (∀o,Calls prog 151 #[vO y.x] (wr.alloc o) λe l=>e=.returned (.string ⟨(aW y.x).toArray⟩)/\Hid (DC w0 b (n+1) j P W C (.slice (some ⟨Z,0,none⟩) C.length p) l)):=by
     intro o;have G:Below wr.heap.size wr (wr.alloc o):=wh _ _;have I1:=I.out.go G
     exact(oQ y.x _ (aG Wo.out I1.nx.low) N).mono λe l hh=>⟨hh.1,I1.go hh.2⟩
    have a1:¬9223372036854775807<3+(aW y.x).length:=by omega
    have a2:¬9223372036854775807<(fC (C.take q)).length+(3+(aW y.x).length):=by omega
    have j1:(0:Int)<=(q:Int):=by omega
    have j2:(q:Int)<(C.length:Int):=by omega
    obtain⟨x,gn⟩:=y;obtain⟨xk,lk,lt,lv,rk,rt,rv,hl,hr⟩:=x;simp only[vO]at L;simp only at ch a1 a2;generalize fC (C.take q)=X at *;clear N K Q Y hy;cases gn
    .go_wp2_with (first
      |(go_at_call 151;refine(L.out _).mono ?_;rintro e w6 ⟨rfl,I6⟩)
      |fail)
     go_roundg (C.length -(q+1))
     case measure=>have:=HG.out;omega
     case rel=>
      refine⟨q+1,by omega,rfl,by go_num,?_,I6⟩;rw[HK.out];congr 2
    .go_wp2_with (first
      |(go_at_call 151;refine(L.out _).mono ?_;rintro e w6 ⟨rfl,I6⟩)
      |fail)
     go_roundg (C.length -(q+1))
     case measure=>have:=HG.out;omega
     case rel=>
      refine⟨q+1,by omega,rfl,by go_num,?_,I6⟩;rw[HK.out];congr 2
   .have A:q=C.length:=by omega
    subst A
    have i1:¬((C.length:Nat):Int)<(C.length:Int):=by omega
    rw[List.take_length];have HI:=hid I.out.nx;clear I;go_wp2;go_ret2;exact⟨_,rfl,M.out,HI.out⟩
theorem Wm(h:DH w0 b f rs i P n st W)(e:dH n st)(l:n<=1600)(j:aU w0)(k t u:Int)(g c:Nat)(p:g<W.heap.size)(o:¬P g)(d:Three g k t u W):
  Calls prog 81 #[.pointer (some ⟨b,0,none⟩),.string ⟨#[108,101,102,116]⟩,.slice (some ⟨g,0,none⟩) 3 c] W (eB w0 b (n+1) (st.feed0 k t u).2 P W (st.feed0 k t u).1 (nC st k t u)):=
 aaP h j 0 _ _ _ _ _ k t u g c p o d (λ_ m=>Em m h.like e l k t u) (by unfold Dh;split;(rename_i a;exact rD e k t u a);exact⟨λc d=>(by cases d),by simp⟩) (λa=>by unfold Dh nC;rw[if_pos a,FO]) (.inl ⟨rfl,rfl⟩)
theorem Ty(h:DH w0 b f rs i P n st W)(e:dH n st)(l:n<=1600)(j:aU w0)(k t u:Int)(g c:Nat)(p:g<W.heap.size)(o:¬P g)(d:Three g k t u W):
  Calls prog 81 #[.pointer (some ⟨b,0,none⟩),.string ⟨#[114,105,103,104,116]⟩,.slice (some ⟨g,0,none⟩) 3 c] W (eB w0 b (n+1) (st.feed1 k t u).2 P W (st.feed1 k t u).1 (nE st k t u)):=
 aaP h j 1 _ _ _ _ _ k t u g c p o d (λ_ m=>En m h.like e l k t u) (by unfold Di;split;(rename_i a;exact rE e k t u a);exact⟨λc d=>(by cases d),by simp⟩) (λa=>by unfold Di nE;rw[if_pos a,FO]) (.inr ⟨rfl,rfl⟩)
end
end Go.Proofs.YthfpipieboophaaGreatDoor
