/-
  The walks over package types: IsPlain, IsSettled, IsArgument, Fits, meet, Join.
-/
import Derived.Test.YteffpdofcgbokaaGreatPk00

namespace Go.Proofs.YteffpdofcgbokaaGreat
open Go.RowKit
variable {ya:Option Addr}{yn yc:Nat}

theorem below2 (w:World) (o o':Obj):Below w.heap.size w ((w.alloc o).alloc o'):=((Below.refl _ _).alloc (Nat.le_refl _) _).alloc (by simp) _
theorem below3 (w:World) (o o' o'':Obj):Below w.heap.size w (((w.alloc o).alloc o').alloc o''):=(((Below.refl _ _).alloc (Nat.le_refl _) _).alloc (by simp) _).alloc (by simp; omega) _

set_option maxRecDepth 100000 in
set_option maxHeartbeats 1000000 in
theorem isPlain_any (l:List Int) (a:Option Addr) (cap:Nat) (k n:Int) (w:World) :
  Calls Tryz.prog 155 #[.agg #[.slice a l.length cap,.slice ya yn yc],.agg #[.int .i64 k,.int .i64 n]] w fun e w'=>e=.returned (.bool (Tr.plainB l k n))∧Below w.heap.size w w':=by
 unfold Tr.plainB
 by_cases h1:k=1
 ·rw [if_pos h1]
  have h1':(k == 1)=true:=by simp [h1]
  clear h1
  go_enter Tryz.func155,Tryz.ntmps155
  go_wp2
  go_ret
  exact ⟨rfl,below2 _ _ _⟩
 ·rw [if_neg h1]
  have h1':(k == 1)=false:=by simp [h1]
  clear h1
  by_cases h3:k=3
  ·rw [if_pos h3]
   have h3':(k == 3)=true:=by simp [h3]
   clear h3
   go_enter Tryz.func155,Tryz.ntmps155
   go_wp2_with fail
   refine (has_any l a cap n _).mono ?_
   rintro e w1 ⟨rfl,hb⟩
   go_wp2
   go_ret
   exact ⟨rfl,(below2 _ _ _).trans (hb.mono (by simp; omega))⟩
  ·rw [if_neg h3]
   have h3':(k == 3)=false:=by simp [h3]
   clear h3
   go_enter Tryz.func155,Tryz.ntmps155
   go_wp2
   go_ret
   exact ⟨rfl,below2 _ _ _⟩

set_option maxRecDepth 100000 in
set_option maxHeartbeats 1000000 in
theorem isSettled_any (l:List Int) (a:Option Addr) (cap:Nat) (k n:Int) (w:World) :
  Calls Tryz.prog 179 #[.agg #[.slice a l.length cap,.slice ya yn yc],.agg #[.int .i64 k,.int .i64 n]] w fun e w'=>e=.returned (.bool (Tr.settledB l k n))∧Below w.heap.size w w':=by
 unfold Tr.settledB
 by_cases h1:k=0
 ·rw [if_pos (.inl h1)]
  have h1':(k == 0)=true:=by simp [h1]
  clear h1
  go_enter Tryz.func179,Tryz.ntmps179
  go_wp2
  go_ret
  exact ⟨rfl,below2 _ _ _⟩
 ·by_cases h2:k=2
  ·rw [if_pos (.inr h2)]
   have h1':(k == 0)=false:=by simp [h1]
   have h2':(k == 2)=true:=by simp [h2]
   clear h1 h2
   go_enter Tryz.func179,Tryz.ntmps179
   go_wp2
   go_ret
   exact ⟨rfl,below2 _ _ _⟩
  ·rw [if_neg (by omega)]
   have h1':(k == 0)=false:=by simp [h1]
   have h2':(k == 2)=false:=by simp [h2]
   clear h1 h2
   go_enter Tryz.func179,Tryz.ntmps179
   go_wp2_with fail
   refine (isPlain_any l a cap k n _).mono ?_
   rintro e w1 ⟨rfl,hb⟩
   go_wp2
   go_ret
   exact ⟨rfl,(below2 _ _ _).trans (hb.mono (by simp; omega))⟩

set_option maxRecDepth 100000 in
set_option maxHeartbeats 1000000 in
theorem tfits_any (l:List Int) (g cap:Nat) (k n k' n':Int) (w:World) (hl:l.length≤1000) (hT:TreeIn w g l) :
  Calls Tryz.prog 92 #[.agg #[.slice (some ⟨g,0,none⟩) l.length cap,.slice ya yn yc],.agg #[.int .i64 k,.int .i64 n],.agg #[.int .i64 k',.int .i64 n']] w fun e w'=>e=.returned (.bool (Tr.fitsB l k n k' n'))∧Below w.heap.size w w':=by
 unfold Tr.fitsB
 by_cases h1:k=k'∧n=n'
 ·rw [if_pos h1]
  obtain ⟨rfl,rfl⟩:=h1
  go_enter Tryz.func92,Tryz.ntmps92
  go_wp2
  go_ret
  exact ⟨rfl,below3 _ _ _ _⟩
 ·rw [if_neg h1]
  by_cases h2:k'=0
  ·rw [if_pos h2]
   subst h2
   by_cases h0:k=0
   ·subst h0
    have hn:¬ n=n':=fun hn=>h1 ⟨rfl,hn⟩
    clear h1
    go_enter Tryz.func92,Tryz.ntmps92
    go_wp2
    go_ret
    exact ⟨rfl,below3 _ _ _ _⟩
   ·clear h1
    go_enter Tryz.func92,Tryz.ntmps92
    go_wp2
    go_ret
    exact ⟨rfl,below3 _ _ _ _⟩
  ·rw [if_neg h2]
   by_cases h3:k'=3
   ·rw [if_neg (by omega)]
    subst h3
    by_cases h4:k=2
    ·rw [if_pos h4]
     subst h4
     clear h1 h2
     go_enter Tryz.func92,Tryz.ntmps92
     go_wp2
     go_ret
     exact ⟨rfl,below3 _ _ _ _⟩
    ·rw [if_neg h4]
     by_cases h5:k=3
     ·rw [if_pos h5]
      subst h5
      have hn:¬ n=n':=fun hn=>h1 ⟨rfl,hn⟩
      clear h1 h2 h4
      go_enter Tryz.func92,Tryz.ntmps92
      go_wp2_with fail
      refine (below_any l g cap n n' _ hl (hT.below (below3 _ _ _ _))).mono ?_
      rintro e w1 ⟨rfl,hb⟩
      go_wp2
      go_ret
      exact ⟨rfl,(below3 _ _ _ _).trans (hb.mono (by simp; omega))⟩
     ·rw [if_neg h5]
      have h4':(k == 2)=false:=by simp [h4]
      have h5':(k == 3)=false:=by simp [h5]
      clear h1 h2 h4
      go_enter Tryz.func92,Tryz.ntmps92
      go_wp2
      go_ret
      exact ⟨rfl,below3 _ _ _ _⟩
   ·rw [if_pos h3]
    have h2':(k' == 0)=false:=by simp [h2]
    have h3':(k' != 3)=true:=by simp [h3]
    by_cases h0:k=k'
    ·subst h0
     have hn:¬ n=n':=fun hn=>h1 ⟨rfl,hn⟩
     clear h1 h2 h3
     go_enter Tryz.func92,Tryz.ntmps92
     go_wp2
     go_ret
     exact ⟨rfl,below3 _ _ _ _⟩
    ·clear h1 h2 h3
     go_enter Tryz.func92,Tryz.ntmps92
     go_wp2
     go_ret
     exact ⟨rfl,below3 _ _ _ _⟩
end Go.Proofs.YteffpdofcgbokaaGreat

/-
  The walks over package types: meet and Join.
-/
namespace Go.Proofs.YteffpdofcgbokaaGreat
open Go.RowKit
variable {ya:Option Addr}{yn yc:Nat}

def Tr.within (l:List Int) (a b:Int):Bool:=(a == b) || Tr.below l a b
set_option maxRecDepth 100000 in
set_option maxHeartbeats 2000000 in
theorem within_any (l:List Int) (g cap:Nat) (a b:Int) (w:World) (hl:l.length≤1000) (hT:TreeIn w g l) :
  Calls Tryz.prog 181 #[.agg #[.slice (some ⟨g,0,none⟩) l.length cap,.slice ya yn yc],.int .i64 a,.int .i64 b] w fun e w'=>e=.returned (.bool (Tr.within l a b))∧Below w.heap.size w w':=by
 have hB1:Below w.heap.size w (w.alloc (.cells #[.slice (some ⟨g,0,none⟩) l.length cap,.slice ya yn yc] 87)):=(Below.refl _ _).alloc (Nat.le_refl _) _
 unfold Tr.within
 by_cases h:a=b
 ·subst h
  rw [beq_self_eq_true,Bool.true_or]
  have h':(a == a)=true:=by simp
  go_enter Tryz.func181,Tryz.ntmps181
  go_wp2
  go_ret
  exact ⟨rfl,hB1⟩
 ·have h':(a == b)=false:=by simp [h]
  rw [h',Bool.false_or]
  generalize hlow:Tr.below l a b=r
  have HL:=hide hlow
  clear h hlow
  go_enter Tryz.func181,Tryz.ntmps181
  go_wp2_with fail
  refine (below_any l g cap a b _ hl (hT.below hB1)).mono ?_
  rw [unhide HL]
  rintro e w2 ⟨rfl,hb2⟩
  go_wp2
  go_ret
  exact ⟨rfl,hB1.trans (hb2.mono (by simp))⟩

theorem below4 (w:World) (o o' o'' o3:Obj):Below w.heap.size w ((((w.alloc o).alloc o').alloc o'').alloc o3):=(below3 w o o' o'').alloc (by simp; omega) _

theorem blks4 (w:World) (o0 o1 o2 o3:Obj):((((w.alloc o0).alloc o1).alloc o2).alloc o3).heap[w.heap.size]?=some o0∧((((w.alloc o0).alloc o1).alloc o2).alloc o3).heap[w.heap.size+1]?=some o1 ∧
  ((((w.alloc o0).alloc o1).alloc o2).alloc o3).heap[w.heap.size+1+1]?=some o2∧((((w.alloc o0).alloc o1).alloc o2).alloc o3).heap[w.heap.size+1+1+1]?=some o3:=by
 refine ⟨?_,?_,?_,?_⟩
 ·rw [Below.heap_alloc _ _ _ (by first | (simp; done) | (simp; omega)),Below.heap_alloc _ _ _ (by first | (simp; done) | (simp; omega)),Below.heap_alloc _ _ _ (by first | (simp; done) | (simp; omega))]; exact alloc_blk w o0
 ·rw [Below.heap_alloc _ _ _ (by first | (simp; done) | (simp; omega)),Below.heap_alloc _ _ _ (by first | (simp; done) | (simp; omega))]; simpa using alloc_blk (w.alloc o0) o1
 ·rw [Below.heap_alloc _ _ _ (by first | (simp; done) | (simp; omega))]; simpa using alloc_blk ((w.alloc o0).alloc o1) o2
 ·simpa using alloc_blk (((w.alloc o0).alloc o1).alloc o2) o3
/-- a block stays behind a call that writes no old block -/
theorem stay {w w':World}{k:Nat}{o:Obj} (hb:Below w.heap.size w w') (h:w.heap[k]?=some o):w'.heap[k]?=some o:=(hb.block k (lt_of_block h)).trans h

end Go.Proofs.YteffpdofcgbokaaGreat

/-
  The walk over types.TreeOf.
-/
namespace Go.Proofs.YteffpdofcgbokaaGreat
open Go.RowKit

/-- the list of a file's tree -/
def Tr.given:List Int:=[-1,0,1,1,1,1,1]
def Tr.tree (cs:List Rd.Cls):List Int:=Tr.given ++ cs.map Rd.Cls.above
theorem tree_len (cs:List Rd.Cls):(Tr.tree cs).length=7+cs.length:=by simp [Tr.tree,Tr.given]; omega

/-- the list of the fields of a file's tree: of the given classes none -/
def Tr.fvals (l:List (Rd.Cls × Value)):List Value:=List.replicate 7 (.slice none 0 0) ++ l.map Prod.snd
theorem Tryz.infoTys:(Tryz.prog.info? 46).map (fun i=>(i.zero,i.size,i.bytes))=some (some (.slice none 0 0),1,24):=by kernel_rfl
theorem seven_own (w:World) (b g:Nat) (t:TypeId) (hg:w.heap.size=g) (hb:b≤g) (u:Value):(w.alloc (.cells #[u,u,u,u,u,u,u] t)).ownsRow b t 1 (.slice (some ⟨g,0,none⟩) 7 7) 7 (List.replicate 7 u) :=
 ⟨rfl,.inr ⟨g,7,#[u,u,u,u,u,u,u],rfl,hb,by rw [← hg]; exact alloc_blk w _,by omega,by unfold maxLen; omega,rfl,rfl⟩⟩

theorem Kp.set2 {e:TypeId}{b i j:Nat}{w:World}{g:Nat}{cs:Array Value} (h:w.heap[g]?=some (.cells cs e (0,0))) (u u':Value):Kp (some e) b w ((w.setCell ⟨g,i,none⟩ u).setCell ⟨g,j,none⟩ u'):=by
 intro k cs' t hk hc ht
 have h1:=Kp.set (b:=b) (i:=i) h u k cs' t hk hc ht
 rw [Below.heap_setCell _ _ _ _ ?_]; exact h1
 intro hk
 simp only at hk
 subst hk
 rw [hc] at h
 simp at h
 exact ht (by rw [h.2])

def lenOf:Value→Nat | .slice _ n _=>n | _=>0

theorem two_own (w:World) (b g:Nat) (u v:Value) (t:TypeId) (hg:w.heap.size=g) (hb:b≤g):(w.alloc (.cells #[u,v] t)).ownsRow b t 1 (.slice (some ⟨g,0,none⟩) 2 2) 2 [u,v] :=
 ⟨rfl,.inr ⟨g,2,#[u,v],rfl,hb,by rw [← hg]; exact alloc_blk w _,by omega,by unfold maxLen; omega,rfl,rfl⟩⟩

theorem own_some {b size n:Nat}{e:TypeId}{a:Option Addr}{m c:Nat}{xs:List Value}{w:World} (h:w.ownsRow b e size (.slice a m c) n xs) (hn:0 < n) :
  ∃ g,a=some ⟨g,0,none⟩∧g < w.heap.size∧b≤g∧∀ j,j < xs.length→w.cell? ⟨g,j,none⟩=xs[j]?:=by
 obtain ⟨h1,⟨_,h2⟩ | ⟨g,cap,cur,h3,h4,h5,h6,h7,h8,h9⟩⟩:=h
 ·omega
 ·simp only [Value.slice.injEq] at h3
  refine ⟨g,h3.1,lt_of_block h5,h4,fun j hj=>?_⟩
  rw [blk_cell h5,← h9,List.getElem?_take,if_pos (by omega)]
  simp
theorem ccells_at (l:List (Rd.Cls × Value)) (k:Nat) (h:k < l.length):(ccells l)[k * 2]?=some (.int .i64 l[k].1.above)∧(ccells l)[k * 2+1]?=some l[k].2∧k * 2+1 < (ccells l).length:=by
 induction l generalizing k with
 | nil=>simp at h
 | cons x r ih =>
  cases k with
  | zero=>simp [ccells]
  | succ j =>
   have hj:j < r.length:=by simpa using h
   obtain ⟨p,q,z⟩:=ih j hj
   have e:ccells (x :: r)=.int .i64 x.1.above :: x.2 :: ccells r:=by simp [ccells]
   rw [e,show (j+1) * 2=j * 2+1+1 by omega]
   refine ⟨by simpa using p,by simpa using q,by simp; omega⟩

set_option maxRecDepth 100000 in
set_option maxHeartbeats 4000000 in
theorem treeOf_any (a1 a2:Option Addr) (n1 c1 n2 c2 b:Nat) (l:List (Rd.Cls × Value)) (w:World) (hl:l.length≤6) (hc:ClssIn w b (.slice a1 n1 c1) l) :
  Calls Tryz.prog 40 #[.agg #[.slice a1 n1 c1,.slice a2 n2 c2]] w fun e w' =>
   ∃ g cap ya yn yc,e=.returned (.agg #[.slice (some ⟨g,0,none⟩) (Tr.tree (l.map Prod.fst)).length cap,.slice ya yn yc])∧TreeIn w' g (Tr.tree (l.map Prod.fst))∧w'.ownsRow w.heap.size 46 1 (.slice ya yn yc) (7+l.length) (Tr.fvals l)∧w.heap.size≤g∧Below w.heap.size w w':=by
 obtain ⟨xa,xc,hsh⟩:=own_shape hc.1
 simp only [Value.slice.injEq] at hsh
 obtain ⟨rfl,hn1,rfl⟩:=hsh
 subst hn1
 obtain ⟨i0,hi,hz0,hz1,hz2⟩:=info_parts Tryz.infoInt
 obtain ⟨j0,hj,hy0,hy1,hy2⟩:=info_parts Tryz.infoTys
 have hmk:∀ w:World,(Instr.makeSlice 85 (.int .i64 7) (.int .i64 7)).run Tryz.prog w=.ok (.slice (some ⟨w.heap.size,0,none⟩) 7 7) (w.alloc (.cells #[.slice none 0 0,.slice none 0 0,.slice none 0 0,.slice none 0 0,.slice none 0 0,.slice none 0 0,.slice none 0 0] 46)):=fun _=>by kernel_rfl
 go_enter Tryz.func40,Tryz.ntmps40
 go_wp2
 go_loopw [3] (fun v wr=>∃ k:Nat,2≤k∧k≤7∧wr.ownsRow (w.heap.size+1+1) 3 1 v k ((Tr.given.take k).map (Value.int .i64))∧lenOf v=k∧Below (w.heap.size+1+1) ((w.alloc (.cells #[.slice a1 l.length c1,.slice a2 n2 c2] 38)).alloc (.cells #[.slice none 0 0,.slice none 0 0] 87)) wr)
  (fun v _=>7 - lenOf v)
 case atStart =>
  refine ⟨2,by omega,by omega,?_,rfl,(Below.refl _ _).alloc (by simp) _⟩
  exact two_own ((w.alloc (.cells #[.slice a1 l.length c1,.slice a2 n2 c2] 38)).alloc (.cells #[.slice none 0 0,.slice none 0 0] 87)) (w.heap.size+1+1) (w.heap.size+1+1) (.int .i64 (-1)) (.int .i64 0) 3 (by simp) (Nat.le_refl _)
 case round =>
  obtain ⟨k,hk0,hk1,hown,hlen,hbl⟩:=hrel
  obtain ⟨va,vc,rfl⟩:=own_shape hown
  clear hlen
  have hsz:=hbl.size
  simp at hsz
  by_cases hkn:k < 7
  ·go_wp2_with (at_builtin; refine wpList_append_own _ rfl _ _ 58 rfl (w.heap.size+1+1) 3 i0 _ 1 8 Tryz.underlying58 hi hz0 hz1 hz2 rfl (by decide) _ _ _ rfl (hown.alloc _) ⟨wr.heap.size,0,none⟩ 1 1 [.int .i64 1] rfl rfl ?c1 ?c2 ?c3 ?c4 ?c5 ?_)
   case c1=>exact cells_new _ _ _ _ rfl
   case c2=>intro u hu; simp at hu; subst hu; rfl
   case c3=>unfold maxLen; omega
   case c4=>omega
   case c5=>simp; omega
   intro v' w2 hown2 hgrow _
   obtain ⟨va',vc',rfl⟩:=own_shape hown2
   have hown3:w2.ownsRow (w.heap.size+1+1) 3 1 (.slice va' (k+1) vc') (k+1) ((Tr.given.take (k+1)).map (Value.int .i64)):=by
    have e:(Tr.given.take (k+1))=Tr.given.take k ++ [1]:=by
     match k,hk0,hkn with
     | 2,_,_=>rfl
     | 3,_,_=>rfl
     | 4,_,_=>rfl
     | 5,_,_=>rfl
     | 6,_,_=>rfl
    rw [e,List.map_append]
    simpa using hown2
   have hbl2:=(hbl.alloc (by omega) (.cells #[.int .i64 1] 3)).grown hgrow (by simp; omega) (fun j hj=>(hown.lt j hj).1)
   clear hgrow hown hown2 hbl
   go_wp2
   go_roundw
   case rel=>exact ⟨k+1,by omega,by omega,hown3,rfl,hbl2⟩
   case measure=>simp [lenOf]; omega
  ·obtain rfl:k=7:=by omega
   have hB:Below w.heap.size w wr:=(below2 w _ _).trans (hbl.mono (by omega))
   have hf0:=(hbl.block w.heap.size (by omega)).trans (alloc1_blk w _ _)
   have hf0':=(Below.heap_alloc wr (.cells #[.slice none 0 0,.slice none 0 0,.slice none 0 0,.slice none 0 0,.slice none 0 0,.slice none 0 0,.slice none 0 0] 46) _ (lt_of_block hf0)).trans hf0
   have x0:=blk_cell hf0' 0
   simp at x0
   have hbl1:=hbl.alloc (by omega) (.cells #[.slice none 0 0,.slice none 0 0,.slice none 0 0,.slice none 0 0,.slice none 0 0,.slice none 0 0,.slice none 0 0] 46)
   have hfs:(wr.alloc (.cells #[.slice none 0 0,.slice none 0 0,.slice none 0 0,.slice none 0 0,.slice none 0 0,.slice none 0 0,.slice none 0 0] 46)).ownsRow (w.heap.size+1+1) 46 1 (.slice (some ⟨wr.heap.size,0,none⟩) 7 7) 7 (List.replicate 7 (.slice none 0 0)):=seven_own wr _ _ _ rfl (by omega) _
   have hown1:=hown.alloc (.cells #[.slice none 0 0,.slice none 0 0,.slice none 0 0,.slice none 0 0,.slice none 0 0,.slice none 0 0,.slice none 0 0] 46)
   clear hown hbl
   go_wp2
   go_loopw [3,4,18] (fun v u i w3=>∃ k:Nat,k≤l.length∧i=.int .i64 k∧w3.ownsRow (w.heap.size+1+1) 3 1 v (7+k) ((Tr.given ++ ((l.map Prod.fst).take k).map Rd.Cls.above).map (Value.int .i64)) ∧
     w3.ownsRow (w.heap.size+1+1) 46 1 u (7+k) (List.replicate 7 (.slice none 0 0) ++ (l.map Prod.snd).take k) ∧
     Below (w.heap.size+1+1) ((w.alloc (.cells #[.slice a1 l.length c1,.slice a2 n2 c2] 38)).alloc (.cells #[.slice none 0 0,.slice none 0 0] 87)) w3)
    (fun _ _ i _=>l.length - (intOf i).toNat)
   case atStart=>exact ⟨0,by omega,rfl,by simpa [Tr.given] using hown1,by simpa using hfs,hbl1⟩
   case round =>
    clear hown1 hbl1 hB hf0 hf0' x0 hsz hfs
    obtain ⟨k,hk,rfl,hown,hfs,hbl⟩:=hrel
    obtain ⟨va,vc,rfl⟩:=own_shape hown
    obtain ⟨za,zc,rfl⟩:=own_shape hfs
    have hsz:=hbl.size
    simp at hsz
    have hB:Below w.heap.size w wr:=(below2 w _ _).trans (hbl.mono (by omega))
    by_cases hkn:k < l.length
    ·obtain ⟨g,hg,hglt,_,hcell⟩:=own_some (own_kp hc.1 (Kp.of_below (e:=none) hB) (by decide)) (by omega)
     obtain ⟨e1,e2,e3⟩:=ccells_at l k hkn
     have x0:=hcell (k * 2) (by omega)
     have x1:=hcell (k * 2+1) (by omega)
     rw [e1] at x0
     rw [e2] at x1
     obtain ⟨ua,uc,hu⟩:=own_shape (hc.2 _ (List.getElem_mem hkn))
     rw [hu] at x1
     generalize hab:l[k].1.above=ab at *
     have HAb:Hid (List.map Rd.Cls.above [l[k].1]=[ab]):=by unfold Hid; simp [hab]
     have HA:Hid ((l.map Prod.fst).take (k+1)=(l.map Prod.fst).take k ++ [l[k].1]):=by
      unfold Hid
      rw [List.take_succ_eq_append_getElem (by simpa using hkn)]
      simp
     have HB:Hid ((l.map Prod.snd).take (k+1)=(l.map Prod.snd).take k ++ [.slice ua l[k].1.fields.length uc]):=by
      unfold Hid
      rw [List.take_succ_eq_append_getElem (by simpa using hkn),← hu]
      simp
     generalize l[k].1.fields.length=fl at *
     clear hcell e1 e2 e3 hab hu
     subst hg
     generalize hxs:((Tr.given ++ ((l.map Prod.fst).take k).map Rd.Cls.above).map (Value.int .i64))=xs at hown
     have HXS:=hide hxs
     clear hxs
     generalize hys:(List.replicate 7 (Value.slice none 0 0) ++ (l.map Prod.snd).take k)=ys at hfs
     have HYS:=hide hys
     clear hys
     go_wp2_with (at_builtin; refine wpList_append_own _ rfl _ _ 58 rfl (w.heap.size+1+1) 3 i0 _ 1 8 Tryz.underlying58 hi hz0 hz1 hz2 rfl (by decide) _ _ _ rfl ((hown.alloc _).alloc _) ⟨wr.heap.size+1,0,none⟩ 1 1 [.int .i64 ab] rfl rfl ?d1 ?d2 ?d3 ?d4 ?d5 ?_)
     case d1=>exact cells_new _ _ _ _ (by simp)
     case d2=>intro u hu; simp at hu; subst hu; rfl
     case d3=>unfold maxLen; omega
     case d4=>omega
     case d5=>simp; omega
     intro v' w2 hown2 hgrow _
     have hown3:w2.ownsRow (w.heap.size+1+1) 3 1 v' (7+(k+1)) ((Tr.given ++ ((l.map Prod.fst).take (k+1)).map Rd.Cls.above).map (Value.int .i64)):=by
      have e:((Tr.given ++ ((l.map Prod.fst).take (k+1)).map Rd.Cls.above).map (Value.int .i64))=((Tr.given ++ ((l.map Prod.fst).take k).map Rd.Cls.above).map (Value.int .i64)) ++ [.int .i64 ab]:=by
       rw [unhide HA,List.map_append (f:=Rd.Cls.above),unhide HAb]
       simp only [List.map_append,List.append_assoc]
       rfl
      rw [e,unhide HXS]
      exact hown2
     have hbl2:=((hbl.alloc (by omega) _).alloc (by simp; omega) _).grown hgrow (by simp; omega) (fun j hj=>(hown.lt j hj).1)
     have hfs2:=own_kp ((hfs.alloc (.cells #[.int .i64 ab,.slice ua fl uc] 143)).alloc (.cells #[.int .i64 ab] 3)) (Kp.of_grown (b:=w.heap.size+1+1) hgrow ((hown.alloc _).alloc _)) (by decide)
     have hcl:w2.heap[wr.heap.size]?=some (.cells #[.int .i64 ab,.slice ua fl uc] 143 (0,0)):=Kp.of_grown (b:=0) hgrow ((hown.alloc _).alloc _) _ _ _ (Nat.zero_le _) ((Below.heap_alloc _ _ _ (by simp)).trans (alloc_blk wr _)) (by decide)
     have y1:=blk_cell hcl 1
     have ly:=lt_of_block hcl
     simp at y1
     clear hgrow hown hown2 hbl hfs
     have hs2:=hbl2.size
     simp at hs2
     go_wp2_with (at_builtin; refine wpList_append_own _ rfl _ _ 85 rfl (w.heap.size+1+1) 46 j0 _ 1 24 Tryz.underlying85 hj hy0 hy1 hy2 rfl (by decide) _ _ _ rfl (hfs2.alloc _) ⟨w2.heap.size,0,none⟩ 1 1 [.slice ua fl uc] rfl rfl ?d1 ?d2 ?d3 ?d4 ?d5 ?_)
     case d1=>exact cells_new _ _ _ _ (by simp)
     case d2=>intro u hu; simp at hu; subst hu; rfl
     case d3=>unfold maxLen; omega
     case d4=>omega
     case d5=>simp; omega
     intro v'' w3 hfs3 hgrow3 _
     have hown4:=own_kp (hown3.alloc (.cells #[.slice ua fl uc] 46)) (Kp.of_grown (b:=w.heap.size+1+1) hgrow3 (hfs2.alloc _)) (by decide)
     have hfs4:w3.ownsRow (w.heap.size+1+1) 46 1 v'' (7+(k+1)) (List.replicate 7 (.slice none 0 0) ++ (l.map Prod.snd).take (k+1)):=by
      rw [unhide HB,← List.append_assoc,unhide HYS]
      exact hfs3
     have hbl3:=(hbl2.alloc (by omega) _).grown hgrow3 (by simp; omega) (fun j hj=>(hfs2.lt j hj).1)
     clear hgrow3 hown3 hfs2 hfs3 hbl2
     go_wp2
     go_roundw
     case rel=>exact ⟨k+1,by omega,by go_num,hown4,hfs4,hbl3⟩
     case measure=>simp [intOf]; omega
    ·obtain rfl:k=l.length:=by omega
     have hr0:=(hbl.block (w.heap.size+1) (by omega)).trans (alloc2_blk w _ _)
     have x0:=blk_cell hr0 0
     have x1:=blk_cell hr0 1
     have f0:=blk_free hr0 0
     have f1:=blk_free hr0 1
     simp at x0 x1
     have ht:((l.map Prod.fst).take l.length)=l.map Prod.fst:=List.take_of_length_le (by simp)
     rw [ht] at hown
     have ht2:((l.map Prod.snd).take l.length)=l.map Prod.snd:=List.take_of_length_le (by simp)
     rw [ht2] at hfs
     obtain ⟨g,hva,hglt,hgb,hcell⟩:=own_some hown (by omega)
     subst hva
     have HC:=hide hcell
     clear hcell
     go_wp2_with fail
     refine bodyPost_ret (v:=.agg #[.slice (some ⟨g,0,none⟩) (7+l.length) vc,.slice za (7+l.length) zc]) (by simp [results,Tryz.results40,go_sem,x0,x1]) rfl ?_
     refine ⟨g,vc,za,7+l.length,zc,by rw [tree_len,List.length_map],⟨by simpa using hglt,fun i hi=>?_⟩,?_,by omega,(hB.setCell (by simp) _).setCell (by simp) _⟩
     ·rw [World.cell?_of_block (w:=wr) ((Below.heap_setCell _ _ _ g (by simp; omega)).trans (Below.heap_setCell wr _ _ g (by simp; omega)))]
      have hi':i < ((Tr.tree (l.map Prod.fst)).map (Value.int .i64)).length:=by simpa using hi
      have h2:=unhide HC i hi'
      have h3:((Tr.tree (l.map Prod.fst)).map (Value.int .i64))[i]?=some (.int .i64 ((Tr.tree (l.map Prod.fst)).getD i 0)):=by
       rw [List.getElem?_map,List.getD_eq_getElem?_getD,List.getElem?_eq_getElem hi]
       rfl
      rw [h2]
      exact h3
     ·exact own_kp (own_mono hfs (by omega)) (Kp.set2 hr0 _ _) (by decide)
end Go.Proofs.YteffpdofcgbokaaGreat

/-
  The walks over faults.allPlain and faults.InClasses.
-/
namespace Go.Proofs.YteffpdofcgbokaaGreat
open Go.RowKit
variable {ya:Option Addr}{yn yc:Nat}

theorem tcells_at (l:List (Int × Int)) (k:Nat) (h:k < l.length):(tcells l)[k * 2]?=some (.int .i64 l[k].1)∧(tcells l)[k * 2+1]?=some (.int .i64 l[k].2)∧k * 2+1 < (tcells l).length:=by
 induction l generalizing k with
 | nil=>simp at h
 | cons x r ih =>
  cases k with
  | zero=>simp [tcells]
  | succ j =>
   have hj:j < r.length:=by simpa using h
   obtain ⟨p,q,z⟩:=ih j hj
   have e:tcells (x :: r)=.int .i64 x.1 :: .int .i64 x.2 :: tcells r:=by simp [tcells]
   rw [e,show (j+1) * 2=j * 2+1+1 by omega]
   refine ⟨by simpa using p,by simpa using q,by simp; omega⟩

theorem allPlain_cons {l:List Int}{x:Int × Int}{r:List (Int × Int)}:Tr.allPlainB l (x :: r)=(Tr.plainB l x.1 x.2 && Tr.allPlainB l r):=by simp [Tr.allPlainB]

set_option maxRecDepth 100000 in
set_option maxHeartbeats 2000000 in
theorem allPlain_any (l:List Int) (a:Option Addr) (cap:Nat) (fa:Option Addr) (fn fc b:Nat) (fs:List (Int × Int)) (w:World) (hfl:fs.length≤1000) (hT:TysAt w b (.slice fa fn fc) fs) :
  Calls Tryz.prog 110 #[.agg #[.slice a l.length cap,.slice ya yn yc],.slice fa fn fc] w fun e w'=>e=.returned (.bool (Tr.allPlainB l fs))∧Below w.heap.size w w':=by
 obtain ⟨xa,xc,hsh⟩:=own_shape hT
 simp only [Value.slice.injEq] at hsh
 obtain ⟨rfl,hn1,rfl⟩:=hsh
 subst hn1
 generalize hr:Tr.allPlainB l fs=r
 have HR:Hid (Tr.allPlainB l (fs.drop 0)=r):=by unfold Hid; simpa using hr
 clear hr
 have hB1:Below w.heap.size w (w.alloc (.cells #[.slice a l.length cap,.slice ya yn yc] 87)):=(Below.refl _ _).alloc (Nat.le_refl _) _
 have hx1:=alloc_blk w (.cells #[.slice a l.length cap,.slice ya yn yc] 87)
 go_enter Tryz.func110,Tryz.ntmps110
 go_wp2
 go_loopw [9] (fun i wr=>∃ k:Nat,k≤fs.length∧i=.int .i64 k∧Hid (Tr.allPlainB l (fs.drop k)=r)∧Below w.heap.size w wr ∧
   wr.heap[w.heap.size]?=some (.cells #[.slice a l.length cap,.slice ya yn yc] 87 (0,0)))
  (fun i _=>fs.length - (intOf i).toNat)
 case atStart=>exact ⟨0,by omega,rfl,HR,hB1,hx1⟩
 case round =>
  clear hB1 hx1 HR
  obtain ⟨k,hk,rfl,HR,hB,hx⟩:=hrel
  have hBs:=hB.size
  by_cases hkn:k < fs.length
  ·obtain ⟨g,hg,hglt,hbg,hcell⟩:=own_some (own_kp hT (Kp.of_below (e:=none) hB) (by decide)) (by omega)
   obtain ⟨e1,e2,e3⟩:=tcells_at fs k hkn
   have x0:=hcell (k * 2) (by omega)
   have x1:=hcell (k * 2+1) (by omega)
   rw [e1] at x0
   rw [e2] at x1
   have hd:fs.drop k=fs[k] :: fs.drop (k+1):=List.drop_eq_getElem_cons hkn
   have hr:=unhide HR
   rw [hd,allPlain_cons] at hr
   generalize hf1:fs[k].1=f1 at *
   generalize hf2:fs[k].2=f2 at *
   have c0:=blk_cell hx 0
   have c1:=blk_cell hx 1
   have lx:=lt_of_block hx
   simp at c0 c1
   clear hcell e1 e2 e3 hf1 hf2 hd hbg
   subst hg
   cases hp:Tr.plainB l f1 f2 with
   | true =>
    have HF:Hid (Tr.allPlainB l (fs.drop (k+1))=r):=by unfold Hid; rw [← hr,hp]; simp
    have HP:=hide hp
    clear hp hr
    go_wp2_with fail
    refine (isPlain_any l a cap f1 f2 _).mono ?_
    rw [unhide HP]
    rintro e w2 ⟨rfl,hb2⟩
    have hB2:Below w.heap.size w w2:=(hB.alloc hBs _).trans (hb2.mono (by simp; omega))
    have hx2:=stay hb2 ((Below.heap_alloc wr (.cells #[.int .i64 f1,.int .i64 f2] 48) _ lx).trans hx)
    clear hb2 hB hx c0 c1 x0 x1 lx
    go_wp2
    go_roundw
    case rel=>exact ⟨k+1,by omega,by go_num,HF,hB2,hx2⟩
    case measure=>simp [intOf]; omega
   | false =>
    have hf:r=false:=by rw [← hr,hp]; simp
    have HF:=hide hf
    have HP:=hide hp
    clear hp hr hf
    go_wp2_with fail
    refine (isPlain_any l a cap f1 f2 _).mono ?_
    rw [unhide HP]
    rintro e w2 ⟨rfl,hb2⟩
    have hB2:Below w.heap.size w w2:=(hB.alloc hBs _).trans (hb2.mono (by simp; omega))
    go_wp2
    go_ret
    exact ⟨by rw [unhide HF]; rfl,hB2⟩
  ·have hf:r=true:=by rw [← unhide HR,List.drop_eq_nil_of_le (by omega)]; rfl
   have HF:=hide hf
   clear hf
   go_wp2
   go_ret
   exact ⟨by rw [unhide HF]; rfl,hB⟩

/-- the first own class that may not be: (3, its number), or (0, 0) -/
def Tr.inCl (l:List Int):Nat→List Rd.Cls→Int × Int
 | _,[]=>(0,0)
 | k,c :: r=>if 7+(k:Int)≤c.above then (3,7+(k:Int)) else if Tr.allPlainB l c.fields=false then (3,7+(k:Int)) else Tr.inCl l (k+1) r

set_option maxRecDepth 100000 in
set_option maxHeartbeats 4000000 in
theorem inClasses_any (a1 a2:Option Addr) (n1 c1 n2 c2 b:Nat) (l:List (Rd.Cls × Value)) (w:World) (hl:l.length≤6) (hfl:∀ p∈l,p.1.fields.length≤1000) (hc:ClssIn w b (.slice a1 n1 c1) l) :
  Calls Tryz.prog 69 #[.agg #[.slice a1 n1 c1,.slice a2 n2 c2]] w fun e w' =>
   e=.returned (.agg #[.int .i64 (Tr.inCl (Tr.tree (l.map Prod.fst)) 0 (l.map Prod.fst)).1,.int .i64 (Tr.inCl (Tr.tree (l.map Prod.fst)) 0 (l.map Prod.fst)).2,.int .i64 0])∧Below w.heap.size w w':=by
 obtain ⟨xa,xc,hsh⟩:=own_shape hc.1
 simp only [Value.slice.injEq] at hsh
 obtain ⟨rfl,hn1,rfl⟩:=hsh
 subst hn1
 generalize ht:Tr.tree (l.map Prod.fst)=T
 generalize hr:Tr.inCl T 0 (l.map Prod.fst)=r
 have HT:=hide ht
 have HR:Hid (Tr.inCl T 0 ((l.map Prod.fst).drop 0)=r):=by unfold Hid; simpa using hr
 clear hr ht
 have hB0:=below2 w (.cells #[.slice a1 l.length c1,.slice a2 n2 c2] 38) (.cells #[.int .i64 0,.int .i64 0,.int .i64 0] 40)
 go_enter Tryz.func69,Tryz.ntmps69
 go_wp2_with fail
 refine (treeOf_any a1 a2 l.length c1 n2 c2 b l _ hl (hc.kp (Kp.of_below (e:=none) hB0) (by decide) (by decide))).mono ?_
 rw [unhide HT]
 rintro e w1 ⟨g,cap,ya,yn,yc,rfl,hTr,hFs,hg,hb1⟩
 clear hFs
 have hB1:=hB0.trans (hb1.mono (by simp; omega))
 have hf:=stay hb1 (alloc1_blk w _ _)
 have hres:=stay hb1 (alloc2_blk w _ _)
 have lt1:=lt_of_block hres
 have x0:=blk_cell hf 0
 simp at x0
 have lt0:=lt_of_block hf
 have ht1:=alloc_blk w1 (.cells #[.slice (some ⟨g,0,none⟩) T.length cap,.slice ya yn yc] 87)
 have hb0:Below w.heap.size w (w1.alloc (.cells #[.slice (some ⟨g,0,none⟩) T.length cap,.slice ya yn yc] 87)):=hB1.alloc hB1.size _
 have hres1:=(Below.heap_alloc w1 (.cells #[.slice (some ⟨g,0,none⟩) T.length cap,.slice ya yn yc] 87) _ lt1).trans hres
 clear hf hres hB1 hb1
 go_wp2
 go_loopw [12] (fun i wr=>∃ k:Nat,k≤l.length∧i=.int .i64 k∧Hid (Tr.inCl T k ((l.map Prod.fst).drop k)=r)∧Below w.heap.size w wr ∧
   wr.heap[w1.heap.size]?=some (.cells #[.slice (some ⟨g,0,none⟩) T.length cap,.slice ya yn yc] 87 (0,0))∧wr.heap[w.heap.size+1]?=some (.cells #[.int .i64 0,.int .i64 0,.int .i64 0] 40 (0,0)))
  (fun i _=>l.length - (intOf i).toNat)
 case atStart=>exact ⟨0,by omega,rfl,HR,hb0,ht1,hres1⟩
 case round =>
  clear hb0 ht1 hres1 HR x0
  obtain ⟨k,hk,rfl,HR,hB,htr,hres⟩:=hrel
  have hBs:=hB.size
  have lt2:=lt_of_block htr
  have lt3:=lt_of_block hres
  by_cases hkn:k < l.length
  ·have hcr:=hc.kp (Kp.of_below (e:=none) hB) (by decide) (by decide)
   obtain ⟨g',hg',hglt,hbg,hcell⟩:=own_some hcr.1 (by omega)
   obtain ⟨e1,e2,e3⟩:=ccells_at l k hkn
   have x0:=hcell (k * 2) (by omega)
   have x1:=hcell (k * 2+1) (by omega)
   rw [e1] at x0
   rw [e2] at x1
   have hfk:=hfl _ (List.getElem_mem hkn)
   have htk:=hcr.2 _ (List.getElem_mem hkn)
   obtain ⟨ua,uc,hu⟩:=own_shape htk
   rw [hu] at x1 htk
   have hd:(l.map Prod.fst).drop k=l[k].1 :: (l.map Prod.fst).drop (k+1):=by
    rw [List.drop_eq_getElem_cons (by simpa using hkn)]
    simp
   have hr:=unhide HR
   rw [hd,Tr.inCl] at hr
   generalize hcl:l[k].1=cl at *
   have c0:=blk_cell htr 0
   have c1:=blk_cell htr 1
   simp at c0 c1
   clear hcell e1 e2 e3 hcl hd hbg hu hcr
   subst hg'
   by_cases h1:7+(k:Int)≤cl.above
   ·rw [if_pos h1] at hr
    have HF:=hide hr
    clear hr
    have y0:=blk_cell hres 0
    have y1:=blk_cell hres 1
    have y2:=blk_cell hres 2
    have f0:=blk_free hres 0
    have f1:=blk_free hres 1
    have f2:=blk_free hres 2
    simp at y0 y1 y2
    go_wp2
    refine bodyPost_ret (v:=.agg #[.int .i64 3,.int .i64 (7+(k:Int)),.int .i64 0]) (by simp [results,Tryz.results69,go_sem,y0,y1,y2,lt3]) rfl ?_
    exact ⟨by rw [← unhide HF],(((hB.setCell (by simp) _).setCell (by simp) _).setCell (by simp) _).alloc (by simp; omega) _⟩
   ·rw [if_neg h1] at hr
    cases hp:Tr.allPlainB T cl.fields with
    | true =>
     rw [hp,if_neg (by simp)] at hr
     have HF:=hide hr
     have HP:=hide hp
     clear hr hp
     go_wp2_with fail
     refine (allPlain_any T (some ⟨g,0,none⟩) cap ua cl.fields.length uc b cl.fields _ hfk (htk.kp (Kp.alloc (e:=none) _ _) (by decide))).mono ?_
     rw [unhide HP]
     rintro e w2 ⟨rfl,hb2⟩
     have hB2:Below w.heap.size w w2:=(hB.alloc hBs _).trans (hb2.mono (by simp; omega))
     have htr2:=stay hb2 ((Below.heap_alloc wr (.cells #[.int .i64 cl.above,.slice ua cl.fields.length uc] 143) _ lt2).trans htr)
     have hres2:=stay hb2 ((Below.heap_alloc wr (.cells #[.int .i64 cl.above,.slice ua cl.fields.length uc] 143) _ lt3).trans hres)
     clear hb2 hB htr hres x0 x1 c0 c1
     go_wp2
     go_roundw
     case rel=>exact ⟨k+1,by omega,by go_num,HF,hB2,htr2,hres2⟩
     case measure=>simp [intOf]; omega
    | false =>
     rw [hp,if_pos rfl] at hr
     have HF:=hide hr
     have HP:=hide hp
     clear hr hp
     go_wp2_with fail
     refine (allPlain_any T (some ⟨g,0,none⟩) cap ua cl.fields.length uc b cl.fields _ hfk (htk.kp (Kp.alloc (e:=none) _ _) (by decide))).mono ?_
     rw [unhide HP]
     rintro e w2 ⟨rfl,hb2⟩
     have hB2:Below w.heap.size w w2:=(hB.alloc hBs _).trans (hb2.mono (by simp; omega))
     have htr2:=stay hb2 ((Below.heap_alloc wr (.cells #[.int .i64 cl.above,.slice ua cl.fields.length uc] 143) _ lt2).trans htr)
     have hres2:=stay hb2 ((Below.heap_alloc wr (.cells #[.int .i64 cl.above,.slice ua cl.fields.length uc] 143) _ lt3).trans hres)
     have y0:=blk_cell hres2 0
     have y1:=blk_cell hres2 1
     have y2:=blk_cell hres2 2
     have f0:=blk_free hres2 0
     have f1:=blk_free hres2 1
     have f2:=blk_free hres2 2
     simp at y0 y1 y2
     go_wp2
     refine bodyPost_ret (v:=.agg #[.int .i64 3,.int .i64 (7+(k:Int)),.int .i64 0]) (by simp [results,Tryz.results69,go_sem,y0,y1,y2]) rfl ?_
     exact ⟨by rw [← unhide HF],((hB2.setCell (by simp) _).setCell (by simp) _).setCell (by simp) _⟩
  ·have hf:r=(0,0):=by rw [← unhide HR,List.drop_eq_nil_of_le (by simp; omega)]; rfl
   have HF:=hide hf.symm
   clear hf
   have y0:=blk_cell hres 0
   have y1:=blk_cell hres 1
   have y2:=blk_cell hres 2
   have f0:=blk_free hres 0
   have f1:=blk_free hres 1
   have f2:=blk_free hres 2
   simp at y0 y1 y2
   go_wp2
   refine bodyPost_ret (v:=.agg #[.int .i64 0,.int .i64 0,.int .i64 0]) (by simp [results,Tryz.results69,go_sem,y0,y1,y2]) rfl ?_
   exact ⟨by rw [← unhide HF],((hB.setCell (by simp) _).setCell (by simp) _).setCell (by simp) _⟩
end Go.Proofs.YteffpdofcgbokaaGreat

/-
  The walks over stackmap.readTree, stackmap.Fits and stackmap.Join.
-/
namespace Go.Proofs.YteffpdofcgbokaaGreat
open Go.RowKit

theorem rep_all {α:Type} (P:α→Prop) (f:Rd.St→α × Rd.St) (h:∀ t,P (f t).1) (n:Nat) (t:Rd.St):∀ x∈(Rd.rep f n t).1,P x:=by
 induction n with
 | zero=>simp [Rd.rep]
 | succ k ih =>
  intro x hx
  simp only [Rd.rep,List.mem_append,List.mem_singleton] at hx
  rcases hx with hx | hx
  ·exact ih x hx
  ·rw [hx]; exact h _

theorem read_bd (s:List UInt8):(Rd.read s).1.classes.length≤6∧∀ c∈(Rd.read s).1.classes,c.fields.length≤1000:=by
 unfold Rd.read
 split
 ·simp
 ·split
  ·simp
  ·simp only [Rd.fil]
   refine ⟨?_,?_⟩
   ·rw [Rd.rep_len]
    have:=Rd.cn_bd s 0 6 (Rd.ex s 77 (Rd.ex s 83 ⟨0,false⟩)) (by omega)
    omega
   ·refine rep_all _ _ (fun t=>?_) _ _
    simp only [Rd.cls]
    rw [tys_len]
    have:=Rd.cn_bd s 0 4 (Rd.nx s t).2 (by omega)
    omega

theorem blks3 (w:World) (o0 o1 o2:Obj):(((w.alloc o0).alloc o1).alloc o2).heap[w.heap.size]?=some o0∧(((w.alloc o0).alloc o1).alloc o2).heap[w.heap.size+1]?=some o1 ∧
  (((w.alloc o0).alloc o1).alloc o2).heap[w.heap.size+1+1]?=some o2:=by
 refine ⟨?_,?_,?_⟩
 ·rw [Below.heap_alloc _ _ _ (by first | (simp; done) | (simp; omega)),Below.heap_alloc _ _ _ (by first | (simp; done) | (simp; omega))]; exact alloc_blk w o0
 ·rw [Below.heap_alloc _ _ _ (by first | (simp; done) | (simp; omega))]; simpa using alloc_blk (w.alloc o0) o1
 ·simpa using alloc_blk ((w.alloc o0).alloc o1) o2

theorem stay1 {w:World}{k:Nat}{o:Obj} (h:w.heap[k]?=some o) (o':Obj):(w.alloc o').heap[k]?=some o:=(Below.heap_alloc w o' k (lt_of_block h)).trans h

end Go.Proofs.YteffpdofcgbokaaGreat

/-
  What fits what is an order, and the join is the least upper bound, over a list of classes in which each class lies below one with a lower number (no Go in sight).
-/
namespace Go.Proofs.YteffpdofcgbokaaGreat.Tr

/-- each class but the first lies below one with a lower number -/
def Ok (l:List Int):Prop:=0 < l.length∧l.getD 0 0 = -1∧∀ i,0 < i→i < l.length→0≤l.getD i 0∧l.getD i 0 < (i:Int)

def itr (l:List Int):Nat→Int→Int
 | 0,a=>a
 | k+1,a=>itr l k (ov l a)

theorem itr_add (l:List Int) (i j:Nat) (a:Int):itr l (i+j) a=itr l j (itr l i a):=by
 induction i generalizing a with
 | zero=>simp [itr]
 | succ k ih=>rw [show k+1+j=(k+j)+1 by omega]; simp [itr,ih]

theorem ov_neg (l:List Int) (a:Int) (h:a < 0):ov l a = -1:=by simp [ov,h]
theorem itr_neg (l:List Int) (k:Nat):itr l k (-1) = -1:=by
 induction k with
 | zero=>rfl
 | succ j ih=>simp [itr,ov_neg l (-1) (by omega),ih]

theorem ov_lt {l:List Int} (h:Ok l) {a:Int} (ha:0≤a):ov l a < a∧-1≤ov l a:=by
 unfold ov
 rw [if_neg (by omega)]
 split
 ·omega
 ·by_cases h0:a.toNat=0
  ·rw [h0,h.2.1]; omega
  ·have:=h.2.2 a.toNat (by omega) (by omega)
   omega
theorem ov_pos {l:List Int} (h:Ok l) {a:Int} (ha:0 < a) (hl:a < (l.length:Int)):0≤ov l a:=by
 unfold ov
 rw [if_neg (by omega),if_neg (by omega)]
 exact (h.2.2 a.toNat (by omega) (by omega)).1

/-- a way of m steps that ends at a class goes down by at least m -/
theorem itr_down {l:List Int} (h:Ok l) (m:Nat) (a:Int) (hr:0≤itr l m a):itr l m a+(m:Int)≤a:=by
 induction m generalizing a with
 | zero=>simp [itr]
 | succ k ih =>
  simp only [itr] at hr ⊢
  have h1:=ih (ov l a) hr
  by_cases ha:0≤a
  ·have:=ov_lt h ha
   omega
  ·rw [ov_neg l a (by omega),itr_neg] at hr
   omega

theorem upTo_iff (l:List Int) (high:Int) (n:Nat) (pos:Int) (hh:0≤high):upTo l high n pos=true↔∃ j,j < n∧itr l j pos=high:=by
 induction n generalizing pos with
 | zero=>simp [upTo]
 | succ k ih =>
  unfold upTo
  by_cases h1:pos = -1
  ·rw [if_pos h1]
   constructor
   ·intro h; cases h
   ·rintro ⟨j,_,hj⟩
    rw [h1,itr_neg] at hj
    omega
  ·rw [if_neg h1]
   by_cases h2:pos=high
   ·rw [if_pos h2]
    exact ⟨fun _=>⟨0,by omega,h2⟩,fun _=>rfl⟩
   ·rw [if_neg h2,ih]
    constructor
    ·rintro ⟨j,hj,e⟩
     exact ⟨j+1,by omega,e⟩
    ·rintro ⟨j,hj,e⟩
     cases j with
     | zero=>exact absurd e h2
     | succ i=>exact ⟨i,by omega,e⟩

theorem below_iff {l:List Int} (h:Ok l) {a b:Int} (hb:0≤b) (hl:a < (l.length:Int)):below l a b=true↔∃ j,itr l (j+1) a=b:=by
 unfold below
 rw [upTo_iff l b _ _ hb]
 constructor
 ·rintro ⟨j,_,e⟩
  exact ⟨j,e⟩
 ·rintro ⟨j,e⟩
  have:=itr_down h (j+1) a (by omega)
  exact ⟨j,by omega,e⟩

theorem below_lt {l:List Int} (h:Ok l) {a b:Int} (hb:0≤b) (hl:a < (l.length:Int)) (hab:below l a b=true):b < a:=by
 obtain ⟨j,e⟩:=(below_iff h hb hl).1 hab
 have:=itr_down h (j+1) a (by omega)
 omega

theorem below_trans {l:List Int} (h:Ok l) {a b c:Int} (hb:0≤b) (hc:0≤c) (hl:a < (l.length:Int)) (h1:below l a b=true) (h2:below l b c=true):below l a c=true:=by
 have hba:=below_lt h hb hl h1
 obtain ⟨i,e⟩:=(below_iff h hb hl).1 h1
 obtain ⟨j,f⟩:=(below_iff h hc (by omega)).1 h2
 refine (below_iff h hc hl).2 ⟨i+1+j,?_⟩
 rw [show i+1+j+1=(i+1)+(j+1) by omega,itr_add,e,f]

theorem below_up {l:List Int} (h:Ok l) {a:Int} (ha:0 < a) (hl:a < (l.length:Int)):below l a (ov l a)=true :=
 (below_iff h (ov_pos h ha hl) hl).2 ⟨0,rfl⟩

/-- where a has gone up by one step: what is above a is that, or above that -/
theorem below_step {l:List Int} (h:Ok l) {a c:Int} (ha:0≤a) (hc:0≤c) (hl:a < (l.length:Int)) (hac:below l a c=true):c=ov l a∨below l (ov l a) c=true:=by
 obtain ⟨j,e⟩:=(below_iff h hc hl).1 hac
 have hov:=ov_lt h ha
 cases j with
 | zero=>left; exact e.symm
 | succ i=>right; exact (below_iff h hc (by omega)).2 ⟨i,e⟩

/-- what an argument may be -/
def Arg (l:List Int) (k n:Int):Prop:=(k=0∧n=0)∨(k=1∧n=0)∨(k=2∧n=0)∨(k=3∧0≤n∧n < (l.length:Int))∨(k=4∧0≤n∧n < 120)

/-- b is a, or below it -/
def At (l:List Int) (b a:Int):Prop:=a=b∨below l b a=true

end Go.Proofs.YteffpdofcgbokaaGreat.Tr

/-
  The document's own reader (package stackmapref) as plain functions on lists of bytes, by places (no Go in sight); and that it reads what the program's reader reads.
-/
namespace Go.Proofs.YteffpdofcgbokaaGreat.Rf
open Go.Proofs.YteffpdofcgbokaaGreat (Rd.St Rd.nx Rd.cn Rd.ex Rd.ty Rd.tys Rd.cls Rd.codes Rd.hnd Rd.hnds Rd.mp Rd.mps Rd.mth Rd.fil)

def at' (s:List UInt8) (i:Int):Int:=if i < 0 then -1 else if (s.length:Int)≤i then -1 else ((s[i.toNat]?.getD 0).toNat:Int)
def cnt (s:List UInt8) (i least most:Int):Int:=if at' s i < least then -1 else if most < at' s i then -1 else at' s i

/-- a thing read n times, each from the place behind the one before; a place below 0 says that there is none -/
def rep {α:Type} (f:Int→α × Int):Nat→Int→List α × Int
 | 0,i=>([],i)
 | k+1,i=>if (rep f k i).2 < 0 then ([],-1) else if (f (rep f k i).2).2 < 0 then ([],-1) else ((rep f k i).1 ++ [(f (rep f k i).2).1],(f (rep f k i).2).2)

def ty (s:List UInt8) (i:Int):(Int × Int) × Int:=((at' s i,at' s (i+1)),i+2)
def tys (s:List UInt8) (i:Int):Nat→List (Int × Int)
 | 0=>[]
 | k+1=>tys s i k ++ [(at' s (i+2 * (k:Int)),at' s (i+2 * (k:Int)+1))]

def cls (s:List UInt8) (i:Int):Rd.Cls × Int :=
 if cnt s (i+1) 0 4 < 0 then (⟨0,[]⟩,-1) else (⟨at' s i,tys s (i+2) (cnt s (i+1) 0 4).toNat⟩,i+2+2 * cnt s (i+1) 0 4)

def hndAt (s:List UInt8) (i:Int):Rd.Hnd:=⟨at' s i,at' s (i+1),at' s (i+2),at' s (i+3)⟩
def hndTo (s:List UInt8) (i:Int):Nat→List Rd.Hnd
 | 0=>[]
 | k+1=>hndTo s i k ++ [hndAt s (i+1+4 * (k:Int))]
def hnds (s:List UInt8) (i:Int):List Rd.Hnd × Int :=
 if cnt s i 0 4 < 0 then ([],-1) else if (s.length:Int) < i+1+4 * cnt s i 0 4 then ([],-1) else (hndTo s i (cnt s i 0 4).toNat,i+1+4 * cnt s i 0 4)

def mp (s:List UInt8) (L H i:Int):Rd.Mp × Int :=
 if cnt s (i+1+2 * L) 0 H < 0 then (⟨0,[],[]⟩,-1)
 else (⟨at' s i,tys s (i+1) L.toNat,tys s (i+2+2 * L) (cnt s (i+1+2 * L) 0 H).toNat⟩,i+2+2 * L+2 * cnt s (i+1+2 * L) 0 H)
def mps (s:List UInt8) (i L H:Int):List Rd.Mp × Int :=
 if cnt s i 0 64 < 0 then ([],-1) else rep (mp s L H) (cnt s i 0 64).toNat (i+1)

def codeTo (s:List UInt8) (i:Int):Nat→List Int
 | 0=>[]
 | k+1=>codeTo s i k ++ [at' s (i+(k:Int))]

/-- a method; where its maps' count stands, and the place behind its maps -/
structure Mth where
 m:Rd.Mth
 mapsAt:Int
 fin:Int

def mth (s:List UInt8) (i:Int):Mth × Int :=
 let p:=cnt s (i+2) 0 4
 if p < 0 then (⟨⟨0,0,[],(0,0),0,0,[],[],[]⟩,0,0⟩,-1)
 else
  let j:=i+3+2 * p
  let l:=cnt s (j+2) 0 8
  let h:=cnt s (j+3) 0 8
  let n:=cnt s (j+4) 1 120
  if l < 0 then (⟨⟨0,0,[],(0,0),0,0,[],[],[]⟩,0,0⟩,-1)
  else if h < 0 then (⟨⟨0,0,[],(0,0),0,0,[],[],[]⟩,0,0⟩,-1)
  else if n < 0 then (⟨⟨0,0,[],(0,0),0,0,[],[],[]⟩,0,0⟩,-1)
  else if (s.length:Int) < j+5+n then (⟨⟨0,0,[],(0,0),0,0,[],[],[]⟩,0,0⟩,-1)
  else
   let hs:=hnds s (j+5+n)
   if hs.2 < 0 then (⟨⟨0,0,[],(0,0),0,0,[],[],[]⟩,0,0⟩,-1)
   else
    let ms:=mps s hs.2 l h
    (⟨⟨at' s i,at' s (i+1),tys s (i+3) p.toNat,(at' s j,at' s (j+1)),l,h,codeTo s (j+5) n.toNat,hs.1,ms.1⟩,hs.2,ms.2⟩,ms.2)

/-- the whole file: its own classes, its methods, and the place behind them (below 0: there is no file) -/
def fil (s:List UInt8):List Rd.Cls × List Mth × Int :=
 if at' s 0 ≠ 83 then ([],[],-1)
 else if at' s 1 ≠ 77 then ([],[],-1)
 else if cnt s 2 0 6 < 0 then ([],[],-1)
 else
  let cs:=rep (cls s) (cnt s 2 0 6).toNat 3
  if cs.2 < 0 then ([],[],-1)
  else if cnt s cs.2 1 6 < 0 then ([],[],-1)
  else
   let ms:=rep (mth s) (cnt s cs.2 1 6).toNat (cs.2+1)
   if ms.2 < 0 then ([],[],-1) else (cs.1,ms.1,ms.2)

/-! ### the two readers read the same -/

/-- the program's reader and the document's are at one place with one thing; or the one is bad, and the other has nothing or is past the end -/
def Lnk {α β:Type} (g:β→α) (n:Nat) (r:α × Rd.St) (x:β × Int):Prop :=
 (0≤x.2∧x.2≤(n:Int)∧r.1=g x.1∧r.2=⟨x.2.toNat,false⟩)∨((x.2 < 0∨(n:Int) < x.2)∧r.2.bad=true)

theorem at_in {s:List UInt8}{i:Int} (h0:0≤i) (h1:i < (s.length:Int)):Rd.nx s ⟨i.toNat,false⟩=(at' s i,⟨(i+1).toNat,false⟩):=by
 unfold Rd.nx at'
 rw [if_neg (by simp),if_neg (by simp only; omega),if_neg (by omega),if_neg (by omega)]
 rw [show (i+1).toNat=i.toNat+1 by omega]
theorem at_out {s:List UInt8}{i:Int} (h1:(s.length:Int)≤i):at' s i = -1:=by
 unfold at'
 split
 ·rfl
 ·rfl
theorem nx_out {s:List UInt8}{i:Int} (h1:(s.length:Int)≤i):Rd.nx s ⟨i.toNat,false⟩=(0,⟨i.toNat,true⟩):=by
 unfold Rd.nx
 rw [if_neg (by simp),if_pos (by simp only; omega)]
theorem at_bd (s:List UInt8) (i:Int):-1≤at' s i∧at' s i≤255:=by
 unfold at'
 split
 ·omega
 ·split
  ·omega
  ·have:=(s[i.toNat]?.getD 0).toNat_lt
   omega
theorem cnt_bd (s:List UInt8) (i a b:Int) (hb:-1≤b):-1≤cnt s i a b∧cnt s i a b≤b:=by
 have:=at_bd s i
 unfold cnt
 split
 ·omega
 ·split <;> omega
theorem cnt_out {s:List UInt8}{i a b:Int} (h:(s.length:Int)≤i) (ha:0≤a):cnt s i a b = -1:=by
 unfold cnt
 rw [at_out h,if_pos (by omega)]

theorem nx_bad (s:List UInt8) (p:Nat):(Rd.nx s ⟨p,true⟩).2.bad=true:=by simp [Rd.nx]
theorem bad_mk (t:Rd.St) (h:t.bad=true):∃ p,t=⟨p,true⟩:=⟨t.pos,by cases t; simp_all⟩

theorem nx_lnk {s:List UInt8}{i:Int} (h0:0≤i) (h1:i≤(s.length:Int)):Lnk id s.length (Rd.nx s ⟨i.toNat,false⟩) (at' s i,i+1):=by
 by_cases h:i < (s.length:Int)
 ·left
  rw [at_in h0 h]
  exact ⟨by simp only; omega,by simp only; omega,rfl,rfl⟩
 ·right
  rw [nx_out (by omega)]
  exact ⟨.inr (by simp only; omega),rfl⟩

/-- a count: the same number and one place on; or bad, and none -/
theorem cn_lnk {s:List UInt8}{i a b:Int} (h0:0≤i) (h1:i≤(s.length:Int)) (ha:0≤a) :
  (0≤cnt s i a b∧i < (s.length:Int)∧Rd.cn s a b ⟨i.toNat,false⟩=(cnt s i a b,⟨(i+1).toNat,false⟩))∨(cnt s i a b < 0∧(Rd.cn s a b ⟨i.toNat,false⟩).2.bad=true):=by
 by_cases h:i < (s.length:Int)
 ·have hb:=at_bd s i
  have ha0:0≤at' s i:=by unfold at'; rw [if_neg (by omega),if_neg (by omega)]; omega
  unfold Rd.cn cnt
  rw [at_in h0 h]
  by_cases c1:at' s i < a
  ·right; rw [if_pos c1,if_pos c1]; exact ⟨by omega,rfl⟩
  ·rw [if_neg c1,if_neg c1]
   by_cases c2:b < at' s i
   ·right; rw [if_pos c2,if_pos c2]; exact ⟨by omega,rfl⟩
   ·left; rw [if_neg c2,if_neg c2]; exact ⟨ha0,h,rfl⟩
 ·right
  refine ⟨by rw [cnt_out (by omega) ha]; omega,?_⟩
  unfold Rd.cn
  rw [nx_out (by omega)]
  split
  ·rfl
  ·split <;> rfl
theorem cn_bad (s:List UInt8) (a b:Int) (p:Nat):(Rd.cn s a b ⟨p,true⟩).2.bad=true:=by
 unfold Rd.cn
 split
 ·rfl
 ·split
  ·rfl
  ·exact nx_bad s p

/-- things read one behind the other -/
theorem rep_lnk {α β:Type}{g:β→α}{n:Nat}{f:Rd.St→α × Rd.St}{F:Int→β × Int} (H1:∀ i:Int,0≤i→i≤(n:Int)→Lnk g n (f ⟨i.toNat,false⟩) (F i))
  (H2:∀ p,(f ⟨p,true⟩).2.bad=true) (H3:∀ i:Int,(n:Int) < i→(F i).2 < 0∨(n:Int) < (F i).2) (k:Nat) (i:Int) (h0:0≤i) (h1:i≤(n:Int)) :
  Lnk (List.map g) n (Rd.rep f k ⟨i.toNat,false⟩) (rep F k i):=by
 induction k with
 | zero=>left; exact ⟨h0,h1,rfl,rfl⟩
 | succ k ih =>
  unfold Rd.rep rep
  rcases ih with ⟨a0,a1,a2,a3⟩ | ⟨b0,b1⟩
  ·rw [if_neg (by omega),a2,a3]
   rcases H1 _ a0 a1 with ⟨c0,c1,c2,c3⟩ | ⟨d0,d1⟩
   ·left
    rw [if_neg (by omega)]
    exact ⟨c0,c1,by simp [c2],c3⟩
   ·right
    refine ⟨?_,d1⟩
    split
    ·left; simp
    ·exact d0
  ·right
   refine ⟨?_,?_⟩
   ·split
    ·left; simp
    ·split
     ·left; simp
     ·rcases b0 with b0 | b0
      ·omega
      ·rcases H3 _ b0 with e | e
       ·omega
       ·right; exact e
   ·obtain ⟨p,hp⟩:=bad_mk _ b1
    rw [hp]
    exact H2 p

theorem rep_bad {α:Type}{f:Rd.St→α × Rd.St} (H2:∀ p,(f ⟨p,true⟩).2.bad=true) (k:Nat) (p:Nat):(Rd.rep f k ⟨p,true⟩).2.bad=true:=by
 induction k with
 | zero=>rfl
 | succ k ih =>
  unfold Rd.rep
  obtain ⟨q,hq⟩:=bad_mk _ ih
  simp only
  rw [hq]
  exact H2 q
end Go.Proofs.YteffpdofcgbokaaGreat.Rf

/-
  The program's reader and the document's read the same file (no Go in sight).
-/
namespace Go.Proofs.YteffpdofcgbokaaGreat.Rf

theorem ty_bad (s:List UInt8) (p:Nat):(Rd.ty s ⟨p,true⟩).2.bad=true:=by
 unfold Rd.ty
 obtain ⟨q,hq⟩:=bad_mk _ (nx_bad s p)
 simp only
 rw [hq]
 exact nx_bad s q
theorem ty_lnk {s:List UInt8}{i:Int} (h0:0≤i) (h1:i≤(s.length:Int)):Lnk id s.length (Rd.ty s ⟨i.toNat,false⟩) (ty s i):=by
 unfold Rd.ty ty
 rcases nx_lnk h0 h1 with ⟨_,a1,a2,a3⟩ | ⟨b0,b1⟩
 ·simp only at a1 a2 a3
  rw [a2,a3]
  rcases nx_lnk (s:=s) (i:=i+1) (by omega) a1 with ⟨_,c1,c2,c3⟩ | ⟨d0,d1⟩
  ·simp only at c1 c2 c3
   left
   exact ⟨by simp only; omega,by simp only; omega,by simp only [c2,id_eq],by simp only [c3]; rw [show i+1+1=i+2 by omega]⟩
  ·simp only at d0
   right
   exact ⟨.inr (by simp only; omega),d1⟩
 ·simp only at b0
  obtain ⟨q,hq⟩:=bad_mk _ b1
  right
  refine ⟨.inr (by simp only; omega),?_⟩
  simp only
  rw [hq]
  exact nx_bad s q

theorem rep_step {α:Type}{f:Int→α × Int}{k:Nat}{i j j':Int}{l:List α}{x:α} (h:rep f k i=(l,j)) (hj:0≤j) (hf:f j=(x,j')) (hj':0≤j'):rep f (k+1) i=(l ++ [x],j'):=by
 unfold rep
 rw [h]
 show (if j < 0 then ([],-1) else if (f j).2 < 0 then ([],-1) else (l ++ [(f j).1],(f j).2))=_
 rw [if_neg (by omega),hf]
 exact if_neg (by simp only; omega)
theorem tys_rep (s:List UInt8) (k:Nat) (i:Int) (h0:0≤i):rep (ty s) k i=(tys s i k,i+2 * (k:Int)):=by
 induction k with
 | zero=>simp [rep,tys]
 | succ k ih =>
  rw [rep_step ih (by omega) rfl (by omega)]
  refine Prod.ext rfl ?_
  simp only
  omega
theorem tys_bad (s:List UInt8) (k p:Nat):(Rd.tys s k ⟨p,true⟩).2.bad=true:=rep_bad (ty_bad s) k p
theorem tys_lnk {s:List UInt8}{i:Int} (k:Nat) (h0:0≤i) (h1:i≤(s.length:Int)):Lnk id s.length (Rd.tys s k ⟨i.toNat,false⟩) (tys s i k,i+2 * (k:Int)):=by
 have h:=rep_lnk (g:=id) (fun i a b=>ty_lnk (s:=s) a b) (ty_bad s) (fun i hi=>.inr (by simp only [ty]; omega)) k i h0 h1
 rw [tys_rep s k i h0] at h
 unfold Rd.tys
 simpa [Lnk] using h

theorem cls_bad (s:List UInt8) (p:Nat):(Rd.cls s ⟨p,true⟩).2.bad=true:=by
 unfold Rd.cls
 obtain ⟨q,hq⟩:=bad_mk _ (nx_bad s p)
 obtain ⟨q2,hq2⟩:=bad_mk _ (cn_bad s 0 4 q)
 simp only
 rw [hq,hq2]
 exact tys_bad s _ q2
theorem cls_out (s:List UInt8) (i:Int) (h:(s.length:Int) < i):(cls s i).2 < 0:=by
 unfold cls
 rw [cnt_out (by omega) (by omega),if_pos (by omega)]
 decide
theorem cls_lnk {s:List UInt8}{i:Int} (h0:0≤i) (h1:i≤(s.length:Int)):Lnk id s.length (Rd.cls s ⟨i.toNat,false⟩) (cls s i):=by
 unfold Rd.cls cls
 rcases nx_lnk h0 h1 with ⟨_,a1,a2,a3⟩ | ⟨b0,b1⟩
 ·simp only at a1 a2 a3
  simp only
  rw [a2,a3]
  rcases cn_lnk (s:=s) (i:=i+1) (a:=0) (b:=4) (by omega) a1 (by omega) with ⟨c0,c1,c2⟩ | ⟨d0,d1⟩
  ·rw [if_neg (by omega),c2]
   simp only
   rcases tys_lnk (s:=s) (i:=i+1+1) (cnt s (i+1) 0 4).toNat (by omega) (by omega) with ⟨_,e1,e2,e3⟩ | ⟨f0,f1⟩
   ·simp only at e1 e2 e3
    left
    rw [show i+1+1=i+2 by omega] at *
    refine ⟨by simp only; omega,by simp only; omega,?_,?_⟩
    ·simp only [e2,id_eq]
    ·rw [e3]; simp only; congr 2; omega
   ·simp only at f0
    right
    exact ⟨.inr (by simp only; omega),f1⟩
  ·rw [if_pos d0]
   right
   obtain ⟨q,hq⟩:=bad_mk _ d1
   simp only
   rw [hq]
   exact ⟨.inl (by decide),tys_bad s _ q⟩
 ·simp only at b0
  rw [cnt_out (by omega) (by omega),if_pos (by omega)]
  right
  obtain ⟨q,hq⟩:=bad_mk _ b1
  obtain ⟨q2,hq2⟩:=bad_mk _ (cn_bad s 0 4 q)
  simp only
  rw [hq,hq2]
  exact ⟨.inl (by decide),tys_bad s _ q2⟩

/-- codes -/
theorem code_rep (s:List UInt8) (k:Nat) (i:Int) (h0:0≤i):rep (fun i=>(at' s i,i+1)) k i=(codeTo s i k,i+(k:Int)):=by
 induction k with
 | zero=>simp [rep,codeTo]
 | succ k ih =>
  rw [rep_step ih (by omega) rfl (by omega)]
  refine Prod.ext rfl ?_
  simp only
  omega
theorem code_lnk {s:List UInt8}{i:Int} (k:Nat) (h0:0≤i) (h1:i≤(s.length:Int)):Lnk id s.length (Rd.rep (Rd.nx s) k ⟨i.toNat,false⟩) (codeTo s i k,i+(k:Int)):=by
 have h:=rep_lnk (g:=id) (F:=fun i=>(at' s i,i+1)) (fun i a b=>nx_lnk (s:=s) a b) (nx_bad s) (fun i hi=>.inr (by simp only; omega)) k i h0 h1
 rw [code_rep s k i h0] at h
 simpa [Lnk] using h

/-- handlers -/
theorem hnd_bad (s:List UInt8) (p:Nat):(Rd.hnd s ⟨p,true⟩).2.bad=true:=by
 unfold Rd.hnd
 obtain ⟨q,hq⟩:=bad_mk _ (nx_bad s p)
 obtain ⟨q2,hq2⟩:=bad_mk _ (nx_bad s q)
 obtain ⟨q3,hq3⟩:=bad_mk _ (nx_bad s q2)
 simp only
 rw [hq,hq2,hq3]
 exact nx_bad s q3
theorem hnd_lnk {s:List UInt8}{i:Int} (h0:0≤i) (h1:i≤(s.length:Int)):Lnk id s.length (Rd.hnd s ⟨i.toNat,false⟩) (hndAt s i,i+4):=by
 by_cases h:i+4≤(s.length:Int)
 ·left
  unfold Rd.hnd hndAt
  simp only
  rw [at_in h0 (by omega),at_in (by omega) (by omega),at_in (by omega) (by omega),at_in (by omega) (by omega)]
  refine ⟨by omega,h,?_,?_⟩
  ·simp only [id_eq,show i+1+1=i+2 by omega,show i+2+1=i+3 by omega]
  ·simp only; congr 2; omega
 ·right
  refine ⟨.inr (by simp only; omega),?_⟩
  unfold Rd.hnd
  simp only
  rcases nx_lnk h0 h1 with ⟨_,a1,_,a3⟩ | ⟨_,b1⟩
  ·simp only at a1 a3
   rw [a3]
   rcases nx_lnk (s:=s) (i:=i+1) (by omega) a1 with ⟨_,c1,_,c3⟩ | ⟨_,d1⟩
   ·simp only at c1 c3
    rw [c3]
    rcases nx_lnk (s:=s) (i:=i+1+1) (by omega) c1 with ⟨_,e1,_,e3⟩ | ⟨_,f1⟩
    ·simp only at e1 e3
     rw [e3,nx_out (by omega)]
    ·obtain ⟨q,hq⟩:=bad_mk _ f1
     rw [hq]; exact nx_bad s q
   ·obtain ⟨q,hq⟩:=bad_mk _ d1
    obtain ⟨q2,hq2⟩:=bad_mk _ (nx_bad s q)
    rw [hq,hq2]; exact nx_bad s q2
  ·obtain ⟨q,hq⟩:=bad_mk _ b1
   obtain ⟨q2,hq2⟩:=bad_mk _ (nx_bad s q)
   obtain ⟨q3,hq3⟩:=bad_mk _ (nx_bad s q2)
   rw [hq,hq2,hq3]; exact nx_bad s q3
theorem hnd_rep (s:List UInt8) (k:Nat) (i:Int) (h0:0≤i):rep (fun i=>(hndAt s i,i+4)) k (i+1)=(hndTo s i k,i+1+4 * (k:Int)):=by
 induction k with
 | zero=>simp [rep,hndTo]
 | succ k ih =>
  rw [rep_step ih (by omega) rfl (by omega)]
  refine Prod.ext rfl ?_
  simp only
  omega
theorem hnds_bad (s:List UInt8) (p:Nat):(Rd.hnds s ⟨p,true⟩).2.bad=true:=by
 unfold Rd.hnds
 obtain ⟨q,hq⟩:=bad_mk _ (cn_bad s 0 4 p)
 simp only
 rw [hq]
 exact rep_bad (hnd_bad s) _ q
theorem hnds_lnk {s:List UInt8}{i:Int} (h0:0≤i) (h1:i≤(s.length:Int)):Lnk id s.length (Rd.hnds s ⟨i.toNat,false⟩) (hnds s i):=by
 unfold Rd.hnds hnds
 rcases cn_lnk (s:=s) (i:=i) (a:=0) (b:=4) h0 h1 (by omega) with ⟨c0,c1,c2⟩ | ⟨d0,d1⟩
 ·rw [if_neg (by omega),c2]
  simp only
  have h:=rep_lnk (g:=id) (F:=fun i=>(hndAt s i,i+4)) (fun i a b=>hnd_lnk (s:=s) a b) (hnd_bad s) (fun i hi=>.inr (by simp only; omega)) (cnt s i 0 4).toNat (i+1) (by omega) (by omega)
  rw [hnd_rep s _ i h0] at h
  rcases h with ⟨_,e1,e2,e3⟩ | ⟨f0,f1⟩
  ·simp only at e1 e2 e3
   left
   rw [if_neg (by omega)]
   refine ⟨by simp only; omega,by simp only; omega,?_,?_⟩
   ·simp only [e2,id_eq,List.map_id_fun]
   ·rw [e3]; simp only; congr 2; omega
  ·simp only at f0
   right
   rw [if_pos (by omega)]
   exact ⟨.inl (by decide),f1⟩
 ·rw [if_pos d0]
  right
  obtain ⟨q,hq⟩:=bad_mk _ d1
  simp only
  rw [hq]
  exact ⟨.inl (by decide),rep_bad (hnd_bad s) _ q⟩

/-- maps -/
theorem mp_bad (s:List UInt8) (L H:Int) (p:Nat):(Rd.mp s L H ⟨p,true⟩).2.bad=true:=by
 unfold Rd.mp
 obtain ⟨q,hq⟩:=bad_mk _ (nx_bad s p)
 obtain ⟨q2,hq2⟩:=bad_mk _ (tys_bad s L.toNat q)
 obtain ⟨q3,hq3⟩:=bad_mk _ (cn_bad s 0 H q2)
 simp only
 rw [hq,hq2,hq3]
 exact tys_bad s _ q3
theorem mp_lnk {s:List UInt8}{L H i:Int} (hL:0≤L) (h0:0≤i) (h1:i≤(s.length:Int)):Lnk id s.length (Rd.mp s L H ⟨i.toNat,false⟩) (mp s L H i):=by
 unfold Rd.mp mp
 rcases nx_lnk h0 h1 with ⟨_,a1,a2,a3⟩ | ⟨b0,b1⟩
 ·simp only at a1 a2 a3
  simp only
  rw [a2,a3]
  rcases tys_lnk (s:=s) (i:=i+1) L.toNat (by omega) a1 with ⟨_,e1,e2,e3⟩ | ⟨f0,f1⟩
  ·simp only at e1 e2 e3
   rw [e2,e3]
   have el:i+1+2 * ((L.toNat:Nat):Int)=i+1+2 * L:=by omega
   rw [el] at e1 ⊢
   rcases cn_lnk (s:=s) (i:=i+1+2 * L) (a:=0) (b:=H) (by omega) e1 (by omega) with ⟨c0,c1,c2⟩ | ⟨d0,d1⟩
   ·rw [if_neg (by omega),c2]
    simp only
    rcases tys_lnk (s:=s) (i:=i+1+2 * L+1) (cnt s (i+1+2 * L) 0 H).toNat (by omega) (by omega) with ⟨_,g1,g2,g3⟩ | ⟨k0,k1⟩
    ·simp only at g1 g2 g3
     left
     have er:i+1+2 * L+1=i+2+2 * L:=by omega
     rw [er] at g1 g2 g3 ⊢
     refine ⟨by simp only; omega,by simp only; omega,?_,?_⟩
     ·simp only [g2,id_eq]
     ·rw [g3]; simp only; congr 2; omega
    ·simp only at k0
     right
     exact ⟨.inr (by simp only; omega),k1⟩
   ·rw [if_pos d0]
    right
    obtain ⟨q,hq⟩:=bad_mk _ d1
    simp only
    rw [hq]
    exact ⟨.inl (by decide),tys_bad s _ q⟩
  ·simp only at f0
   rw [cnt_out (by omega) (by omega),if_pos (by omega)]
   right
   obtain ⟨q,hq⟩:=bad_mk _ f1
   obtain ⟨q2,hq2⟩:=bad_mk _ (cn_bad s 0 H q)
   simp only
   rw [hq,hq2]
   exact ⟨.inl (by decide),tys_bad s _ q2⟩
 ·simp only at b0
  rw [cnt_out (by omega) (by omega),if_pos (by omega)]
  right
  obtain ⟨q,hq⟩:=bad_mk _ b1
  obtain ⟨q1,hq1⟩:=bad_mk _ (tys_bad s L.toNat q)
  obtain ⟨q2,hq2⟩:=bad_mk _ (cn_bad s 0 H q1)
  simp only
  rw [hq,hq1,hq2]
  exact ⟨.inl (by decide),tys_bad s _ q2⟩
theorem mps_bad (s:List UInt8) (L H:Int) (p:Nat):(Rd.mps s L H ⟨p,true⟩).2.bad=true:=by
 unfold Rd.mps
 obtain ⟨q,hq⟩:=bad_mk _ (cn_bad s 0 64 p)
 simp only
 rw [hq]
 exact rep_bad (mp_bad s L H) _ q
theorem mps_lnk {s:List UInt8}{L H i:Int} (hL:0≤L) (h0:0≤i) (h1:i≤(s.length:Int)):Lnk id s.length (Rd.mps s L H ⟨i.toNat,false⟩) (mps s i L H):=by
 unfold Rd.mps mps
 rcases cn_lnk (s:=s) (i:=i) (a:=0) (b:=64) h0 h1 (by omega) with ⟨c0,c1,c2⟩ | ⟨d0,d1⟩
 ·rw [if_neg (by omega),c2]
  simp only
  have h:=rep_lnk (g:=id) (fun i a b=>mp_lnk (s:=s) (H:=H) hL a b) (mp_bad s L H) (fun i hi=>.inl (by unfold mp; rw [cnt_out (by omega) (by omega),if_pos (by omega)]; decide)) (cnt s i 0 64).toNat (i+1) (by omega) (by omega)
  simpa [Lnk] using h
 ·rw [if_pos d0]
  right
  obtain ⟨q,hq⟩:=bad_mk _ d1
  simp only
  rw [hq]
  exact ⟨.inl (by decide),rep_bad (mp_bad s L H) _ q⟩

/-- a method -/
theorem mth_bad (s:List UInt8) (p:Nat):(Rd.mth s ⟨p,true⟩).2.bad=true:=by
 unfold Rd.mth
 obtain ⟨q1,h1⟩:=bad_mk _ (nx_bad s p)
 obtain ⟨q2,h2⟩:=bad_mk _ (nx_bad s q1)
 obtain ⟨q3,h3⟩:=bad_mk _ (cn_bad s 0 4 q2)
 obtain ⟨q5,h5⟩:=bad_mk _ (tys_bad s (Rd.cn s 0 4 ⟨q2,true⟩).1.toNat q3)
 obtain ⟨q6,h6⟩:=bad_mk _ (ty_bad s q5)
 obtain ⟨q7,h7⟩:=bad_mk _ (cn_bad s 0 8 q6)
 obtain ⟨q8,h8⟩:=bad_mk _ (cn_bad s 0 8 q7)
 obtain ⟨q9,h9⟩:=bad_mk _ (show (Rd.codes s ⟨q8,true⟩).2.bad=true by
  unfold Rd.codes
  obtain ⟨q,hq⟩:=bad_mk _ (cn_bad s 1 120 q8)
  simp only
  rw [hq]
  exact rep_bad (nx_bad s) _ q)
 obtain ⟨q10,h10⟩:=bad_mk _ (hnds_bad s q9)
 simp only
 rw [h1,h2,h3,h5,h6,h7,h8,h9,h10]
 exact mps_bad s _ _ q10

theorem codes_bad (s:List UInt8) (p:Nat):(Rd.codes s ⟨p,true⟩).2.bad=true:=by
 unfold Rd.codes
 obtain ⟨q,hq⟩:=bad_mk _ (cn_bad s 1 120 p)
 simp only
 rw [hq]
 exact rep_bad (nx_bad s) _ q

/-- the reader's state behind a method, from each of its stages on -/
def g10 (s:List UInt8) (l h:Int) (t:Rd.St):Rd.St:=(Rd.mps s l h t).2
def g9 (s:List UInt8) (l h:Int) (t:Rd.St):Rd.St:=g10 s l h (Rd.hnds s t).2
def g8 (s:List UInt8) (l h:Int) (t:Rd.St):Rd.St:=g9 s l h (Rd.codes s t).2
def g7 (s:List UInt8) (l:Int) (t:Rd.St):Rd.St:=g8 s l (Rd.cn s 0 8 t).1 (Rd.cn s 0 8 t).2
def g6 (s:List UInt8) (t:Rd.St):Rd.St:=g7 s (Rd.cn s 0 8 t).1 (Rd.cn s 0 8 t).2
def g5 (s:List UInt8) (t:Rd.St):Rd.St:=g6 s (Rd.ty s t).2
def g4 (s:List UInt8) (p:Int) (t:Rd.St):Rd.St:=g5 s (Rd.tys s p.toNat t).2
def g3 (s:List UInt8) (t:Rd.St):Rd.St:=g4 s (Rd.cn s 0 4 t).1 (Rd.cn s 0 4 t).2
def g2 (s:List UInt8) (t:Rd.St):Rd.St:=g3 s (Rd.nx s t).2
theorem g1_eq (s:List UInt8) (t:Rd.St):(Rd.mth s t).2=g2 s (Rd.nx s t).2:=by
 simp only [Rd.mth,g2,g3,g4,g5,g6,g7,g8,g9,g10]
theorem g10_bad {s:List UInt8}{l h:Int}{t:Rd.St} (ht:t.bad=true):(g10 s l h t).bad=true:=by
 obtain ⟨p,rfl⟩:=bad_mk t ht
 exact mps_bad s l h p
theorem g9_bad {s:List UInt8}{l h:Int}{t:Rd.St} (ht:t.bad=true):(g9 s l h t).bad=true:=by
 obtain ⟨p,rfl⟩:=bad_mk t ht
 exact g10_bad (hnds_bad s p)
theorem g8_bad {s:List UInt8}{l h:Int}{t:Rd.St} (ht:t.bad=true):(g8 s l h t).bad=true:=by
 obtain ⟨p,rfl⟩:=bad_mk t ht
 exact g9_bad (codes_bad s p)
theorem g7_bad {s:List UInt8}{l:Int}{t:Rd.St} (ht:t.bad=true):(g7 s l t).bad=true:=by
 obtain ⟨p,rfl⟩:=bad_mk t ht
 exact g8_bad (cn_bad s 0 8 p)
theorem g6_bad {s:List UInt8}{t:Rd.St} (ht:t.bad=true):(g6 s t).bad=true:=by
 obtain ⟨p,rfl⟩:=bad_mk t ht
 exact g7_bad (cn_bad s 0 8 p)
theorem g5_bad {s:List UInt8}{t:Rd.St} (ht:t.bad=true):(g5 s t).bad=true:=by
 obtain ⟨p,rfl⟩:=bad_mk t ht
 exact g6_bad (ty_bad s p)
theorem g4_bad {s:List UInt8}{p:Int}{t:Rd.St} (ht:t.bad=true):(g4 s p t).bad=true:=by
 obtain ⟨q,rfl⟩:=bad_mk t ht
 exact g5_bad (tys_bad s _ q)
theorem g3_bad {s:List UInt8}{t:Rd.St} (ht:t.bad=true):(g3 s t).bad=true:=by
 obtain ⟨p,rfl⟩:=bad_mk t ht
 exact g4_bad (cn_bad s 0 4 p)
theorem g2_bad {s:List UInt8}{t:Rd.St} (ht:t.bad=true):(g2 s t).bad=true:=by
 obtain ⟨p,rfl⟩:=bad_mk t ht
 exact g3_bad (nx_bad s p)

theorem hnds_le (s:List UInt8) (i:Int):(hnds s i).2≤(s.length:Int):=by
 unfold hnds
 split
 ·simp only; omega
 ·split
  ·simp only; omega
  ·simp only; omega

theorem mth_lnk {s:List UInt8}{i:Int} (h0:0≤i) (h1:i≤(s.length:Int)):Lnk Mth.m s.length (Rd.mth s ⟨i.toNat,false⟩) (mth s i):=by
 -- where the document's reader has nothing, it is enough that the program's is bad
 have no:∀ x:Mth × Int,x.2 < 0→(Rd.mth s ⟨i.toNat,false⟩).2.bad=true→Lnk Mth.m s.length (Rd.mth s ⟨i.toNat,false⟩) x:=fun x a b=>.inr ⟨.inl a,b⟩
 rcases nx_lnk h0 h1 with ⟨_,a1,a2,a3⟩ | ⟨b0,b1⟩
 rotate_left
 ·simp only at b0
  refine no _ ?_ (g2_bad b1)
  unfold mth
  simp only
  rw [cnt_out (by omega) (by omega),if_pos (by omega)]
  decide
 simp only at a1 a2 a3
 rcases nx_lnk (s:=s) (i:=i+1) (by omega) a1 with ⟨_,b1,b2,b3⟩ | ⟨c0,c1⟩
 rotate_left
 ·simp only at c0
  refine no _ ?_ ?_
  ·unfold mth
   simp only
   rw [cnt_out (by omega) (by omega),if_pos (by omega)]
   decide
  ·rw [g1_eq,a3]; exact g3_bad c1
 simp only at b1 b2 b3
 rw [show i+1+1=i+2 by omega] at b1 b3
 rcases cn_lnk (s:=s) (i:=i+2) (a:=0) (b:=4) (by omega) b1 (by omega) with ⟨c0,c1,c2⟩ | ⟨d0,d1⟩
 rotate_left
 ·refine no _ ?_ ?_
  ·unfold mth
   simp only
   rw [if_pos d0]
   decide
  ·rw [g1_eq,a3]
   show (g3 s (Rd.nx s _).2).bad=true
   rw [b3]; exact g4_bad d1
 rw [show i+2+1=i+3 by omega] at c2
 have e2:(Rd.mth s ⟨i.toNat,false⟩).2=g4 s (cnt s (i+2) 0 4) ⟨(i+3).toNat,false⟩:=by
  rw [g1_eq,a3]
  show g3 s (Rd.nx s _).2=_
  rw [b3]
  show g4 s (Rd.cn s 0 4 _).1 (Rd.cn s 0 4 _).2=_
  rw [c2]
 have cb:=cnt_bd s (i+2) 0 4 (by omega)
 -- the parameters
 rcases tys_lnk (s:=s) (i:=i+3) (cnt s (i+2) 0 4).toNat (by omega) (by omega) with ⟨_,d1,d2,d3⟩ | ⟨d0,d1⟩
 rotate_left
 ·simp only at d0
  refine no _ ?_ ?_
  ·unfold mth
   simp only
   rw [if_neg (by omega),cnt_out (i:=i+3+2 * cnt s (i+2) 0 4+2) (by omega) (by omega),if_pos (by omega)]
   decide
  ·rw [e2]; exact g5_bad d1
 simp only at d1 d2 d3
 rw [show i+3+2 * (((cnt s (i+2) 0 4).toNat:Nat):Int)=i+3+2 * cnt s (i+2) 0 4 by omega] at d1 d3
 have e3:(Rd.mth s ⟨i.toNat,false⟩).2=g5 s ⟨(i+3+2 * cnt s (i+2) 0 4).toNat,false⟩:=by
  rw [e2]
  show g5 s (Rd.tys s _ _).2=_
  rw [d3]
 generalize hj:i+3+2 * cnt s (i+2) 0 4=j at *
 have j0:0≤j:=by omega
 rcases ty_lnk (s:=s) (i:=j) j0 d1 with ⟨_,f1,f2,f3⟩ | ⟨f0,f1⟩
 rotate_left
 ·simp only [ty] at f0
  refine no _ ?_ ?_
  ·unfold mth
   simp only
   rw [if_neg (by omega),hj,cnt_out (i:=j+2) (by omega) (by omega),if_pos (by omega)]
   decide
  ·rw [e3]; exact g6_bad f1
 simp only [ty] at f1 f2 f3
 have e4:(Rd.mth s ⟨i.toNat,false⟩).2=g6 s ⟨(j+2).toNat,false⟩:=by
  rw [e3]
  show g6 s (Rd.ty s _).2=_
  rw [f3]
 rcases cn_lnk (s:=s) (i:=j+2) (a:=0) (b:=8) (by omega) f1 (by omega) with ⟨l0,l1,l2⟩ | ⟨l0,l1⟩
 rotate_left
 ·refine no _ ?_ ?_
  ·unfold mth
   simp only
   rw [if_neg (by omega),hj,if_pos l0]
   decide
  ·rw [e4]; exact g7_bad l1
 rw [show j+2+1=j+3 by omega] at l2
 rcases cn_lnk (s:=s) (i:=j+3) (a:=0) (b:=8) (by omega) (by omega) (by omega) with ⟨k0,k1,k2⟩ | ⟨k0,k1⟩
 rotate_left
 ·refine no _ ?_ ?_
  ·unfold mth
   simp only
   rw [if_neg (by omega),hj,if_neg (by omega),if_pos k0]
   decide
  ·rw [e4]
   show (g7 s (Rd.cn s 0 8 _).1 (Rd.cn s 0 8 _).2).bad=true
   rw [l2]; exact g8_bad k1
 rw [show j+3+1=j+4 by omega] at k2
 have e5:(Rd.mth s ⟨i.toNat,false⟩).2=g8 s (cnt s (j+2) 0 8) (cnt s (j+3) 0 8) ⟨(j+4).toNat,false⟩:=by
  rw [e4]
  show g7 s (Rd.cn s 0 8 _).1 (Rd.cn s 0 8 _).2=_
  rw [l2]
  show g8 s _ (Rd.cn s 0 8 _).1 (Rd.cn s 0 8 _).2=_
  rw [k2]
 rcases cn_lnk (s:=s) (i:=j+4) (a:=1) (b:=120) (by omega) (by omega) (by omega) with ⟨n0,n1,n2⟩ | ⟨n0,n1⟩
 rotate_left
 ·refine no _ ?_ ?_
  ·unfold mth
   simp only
   rw [if_neg (by omega),hj,if_neg (by omega),if_neg (by omega),if_pos n0]
   decide
  ·rw [e5]
   refine g9_bad ?_
   unfold Rd.codes
   obtain ⟨q,hq⟩:=bad_mk _ n1
   simp only
   rw [hq]
   exact rep_bad (nx_bad s) _ q
 rw [show j+4+1=j+5 by omega] at n2
 rcases code_lnk (s:=s) (i:=j+5) (cnt s (j+4) 1 120).toNat (by omega) (by omega) with ⟨_,o1,o2,o3⟩ | ⟨o0,o1⟩
 rotate_left
 ·simp only at o0
  refine no _ ?_ ?_
  ·unfold mth
   simp only
   rw [if_neg (by omega),hj,if_neg (by omega),if_neg (by omega),if_neg (by omega),if_pos (by omega)]
   decide
  ·rw [e5]
   refine g9_bad ?_
   unfold Rd.codes
   simp only
   rw [n2]
   exact o1
 simp only at o1 o2 o3
 rw [show j+5+(((cnt s (j+4) 1 120).toNat:Nat):Int)=j+5+cnt s (j+4) 1 120 by omega] at o1 o3
 have hcode:Rd.codes s ⟨(j+4).toNat,false⟩=(codeTo s (j+5) (cnt s (j+4) 1 120).toNat,⟨(j+5+cnt s (j+4) 1 120).toNat,false⟩):=by
  unfold Rd.codes
  simp only
  rw [n2]
  exact Prod.ext o2 o3
 rcases hnds_lnk (s:=s) (i:=j+5+cnt s (j+4) 1 120) (by omega) o1 with ⟨p0,p1,p2,p3⟩ | ⟨p0,p1⟩
 rotate_left
 ·have hle:=hnds_le s (j+5+cnt s (j+4) 1 120)
  refine no _ ?_ ?_
  ·unfold mth
   simp only
   rw [if_neg (by omega),hj,if_neg (by omega),if_neg (by omega),if_neg (by omega),if_neg (by omega),if_pos (by omega)]
   decide
  ·rw [e5]
   show (g9 s _ _ (Rd.codes s _).2).bad=true
   rw [hcode]
   exact g10_bad p1
 have hm:=mps_lnk (s:=s) (L:=cnt s (j+2) 0 8) (H:=cnt s (j+3) 0 8) l0 p0 p1
 have e6:(Rd.mth s ⟨i.toNat,false⟩).2=(Rd.mps s (cnt s (j+2) 0 8) (cnt s (j+3) 0 8) ⟨(hnds s (j+5+cnt s (j+4) 1 120)).2.toNat,false⟩).2:=by
  rw [e5]
  show g9 s _ _ (Rd.codes s _).2=_
  rw [hcode]
  show g10 s _ _ (Rd.hnds s _).2=_
  simp only
  rw [p3]
  rfl
 have hx:mth s i=(⟨⟨at' s i,at' s (i+1),tys s (i+3) (cnt s (i+2) 0 4).toNat,(at' s j,at' s (j+1)),cnt s (j+2) 0 8,cnt s (j+3) 0 8,codeTo s (j+5) (cnt s (j+4) 1 120).toNat,(hnds s (j+5+cnt s (j+4) 1 120)).1,(mps s (hnds s (j+5+cnt s (j+4) 1 120)).2 (cnt s (j+2) 0 8) (cnt s (j+3) 0 8)).1⟩,(hnds s (j+5+cnt s (j+4) 1 120)).2,(mps s (hnds s (j+5+cnt s (j+4) 1 120)).2 (cnt s (j+2) 0 8) (cnt s (j+3) 0 8)).2⟩,(mps s (hnds s (j+5+cnt s (j+4) 1 120)).2 (cnt s (j+2) 0 8) (cnt s (j+3) 0 8)).2):=by
  unfold mth
  simp only
  rw [if_neg (by omega),hj,if_neg (by omega),if_neg (by omega),if_neg (by omega),if_neg (by omega),if_neg (by omega)]
 rw [hx]
 rcases hm with ⟨m0,m1,m2,m3⟩ | ⟨m0,m1⟩
 ·left
  refine ⟨m0,m1,?_,by rw [e6]; exact m3⟩
  have A:Rd.nx s ⟨i.toNat,false⟩=(at' s i,⟨(i+1).toNat,false⟩):=Prod.ext a2 a3
  have B:Rd.nx s ⟨(i+1).toNat,false⟩=(at' s (i+1),⟨(i+2).toNat,false⟩):=Prod.ext b2 b3
  have D:Rd.tys s (cnt s (i+2) 0 4).toNat ⟨(i+3).toNat,false⟩=(tys s (i+3) (cnt s (i+2) 0 4).toNat,⟨j.toNat,false⟩):=Prod.ext d2 d3
  have E:Rd.ty s ⟨j.toNat,false⟩=((at' s j,at' s (j+1)),⟨(j+2).toNat,false⟩):=Prod.ext f2 f3
  have P:Rd.hnds s ⟨(j+5+cnt s (j+4) 1 120).toNat,false⟩=((hnds s (j+5+cnt s (j+4) 1 120)).1,⟨(hnds s (j+5+cnt s (j+4) 1 120)).2.toNat,false⟩):=Prod.ext p2 p3
  simp only [Rd.mth,A,B,c2,D,E,l2,k2,hcode,P]
  simp only [id_eq] at m2
  rw [m2]
 ·right
  exact ⟨m0,by rw [e6]; exact m1⟩

theorem mth_out (s:List UInt8) (i:Int) (h:(s.length:Int) < i):(mth s i).2 < 0:=by
 unfold mth
 simp only
 rw [cnt_out (by omega) (by omega),if_pos (by omega)]
 decide

theorem ex_bad (s:List UInt8) (b:Int) (p:Nat):(Rd.ex s b ⟨p,true⟩).bad=true:=by
 unfold Rd.ex
 split
 ·exact nx_bad s p
 ·rfl

theorem ex_lnk {s:List UInt8}{i b:Int} (h0:0≤i) (h1:i≤(s.length:Int)) (hb:0≤b) :
  (at' s i=b∧i < (s.length:Int)∧Rd.ex s b ⟨i.toNat,false⟩=⟨(i+1).toNat,false⟩)∨(at' s i ≠ b∧(Rd.ex s b ⟨i.toNat,false⟩).bad=true):=by
 unfold Rd.ex
 by_cases h:i < (s.length:Int)
 ·rw [at_in h0 h]
  by_cases e:at' s i=b
  ·left; rw [if_pos e]; exact ⟨e,h,rfl⟩
  ·right; rw [if_neg e]; exact ⟨e,rfl⟩
 ·right
  rw [nx_out (by omega),at_out (by omega)]
  refine ⟨by omega,?_⟩
  split <;> rfl

/-- the whole file: the program's reader ends well at the end just where the document's does, with the same classes and methods -/
theorem fil_same (s:List UInt8) :
  ((Rd.fil s ⟨0,false⟩).2.bad=false∧(Rd.fil s ⟨0,false⟩).2.pos=s.length↔(fil s).2.2=(s.length:Int)) ∧
  ((fil s).2.2=(s.length:Int)→(Rd.fil s ⟨0,false⟩).1.classes=(fil s).1∧(Rd.fil s ⟨0,false⟩).1.methods=(fil s).2.1.map Mth.m):=by
 -- the stages of the program's reader
 have stg:(Rd.fil s ⟨0,false⟩).2=(Rd.rep (Rd.mth s) (Rd.cn s 1 6 (Rd.rep (Rd.cls s) (Rd.cn s 0 6 (Rd.ex s 77 (Rd.ex s 83 ⟨0,false⟩))).1.toNat (Rd.cn s 0 6 (Rd.ex s 77 (Rd.ex s 83 ⟨0,false⟩))).2).2).1.toNat
   (Rd.cn s 1 6 (Rd.rep (Rd.cls s) (Rd.cn s 0 6 (Rd.ex s 77 (Rd.ex s 83 ⟨0,false⟩))).1.toNat (Rd.cn s 0 6 (Rd.ex s 77 (Rd.ex s 83 ⟨0,false⟩))).2).2).2).2:=by simp only [Rd.fil]
 have hb4:∀ (k:Nat) (t:Rd.St),t.bad=true→(Rd.rep (Rd.mth s) k t).2.bad=true:=fun k t ht=>by
  obtain ⟨p,rfl⟩:=bad_mk t ht
  exact rep_bad (mth_bad s) k p
 have hb3:∀ (t:Rd.St),t.bad=true→(Rd.rep (Rd.mth s) (Rd.cn s 1 6 t).1.toNat (Rd.cn s 1 6 t).2).2.bad=true:=fun t ht=>by
  obtain ⟨p,rfl⟩:=bad_mk t ht
  exact hb4 _ _ (cn_bad s 1 6 p)
 have hb2:∀ (k:Nat) (t:Rd.St),t.bad=true→(Rd.rep (Rd.cls s) k t).2.bad=true:=fun k t ht=>by
  obtain ⟨p,rfl⟩:=bad_mk t ht
  exact rep_bad (cls_bad s) k p
 have no:(Rd.fil s ⟨0,false⟩).2.bad=true→(fil s).2.2 ≠ (s.length:Int) →
   ((Rd.fil s ⟨0,false⟩).2.bad=false∧(Rd.fil s ⟨0,false⟩).2.pos=s.length↔(fil s).2.2=(s.length:Int)) ∧
   ((fil s).2.2=(s.length:Int)→(Rd.fil s ⟨0,false⟩).1.classes=(fil s).1∧(Rd.fil s ⟨0,false⟩).1.methods=(fil s).2.1.map Mth.m):=by
  intro a b
  refine ⟨⟨fun h=>?_,fun h=>absurd h b⟩,fun h=>absurd h b⟩
  rw [a] at h
  exact absurd h.1 (by simp)
 rcases ex_lnk (s:=s) (i:=0) (b:=83) (by omega) (by omega) (by omega) with ⟨a1,a2,a3⟩ | ⟨a1,a2⟩
 rotate_left
 ·refine no ?_ ?_
  ·rw [stg]
   refine hb3 _ (hb2 _ _ ?_)
   have h1:(Rd.ex s 83 ⟨0,false⟩).bad=true:=a2
   obtain ⟨p,hp⟩:=bad_mk _ h1
   rw [hp]
   obtain ⟨q,hq⟩:=bad_mk _ (ex_bad s 77 p)
   rw [hq]
   exact cn_bad s 0 6 q
  ·unfold fil
   rw [if_pos a1]
   simp only
   omega
 have x1:Rd.ex s 83 ⟨0,false⟩=⟨(0+1:Int).toNat,false⟩:=a3
 rcases ex_lnk (s:=s) (i:=0+1) (b:=77) (by omega) (by omega) (by omega) with ⟨b1,b2,b3⟩ | ⟨b1,b2⟩
 rotate_left
 ·refine no ?_ ?_
  ·rw [stg,x1]
   refine hb3 _ (hb2 _ _ ?_)
   obtain ⟨q,hq⟩:=bad_mk _ b2
   rw [hq]
   exact cn_bad s 0 6 q
  ·unfold fil
   rw [if_neg (by omega),if_pos (show at' s 1 ≠ 77 from b1)]
   simp only
   omega
 rcases cn_lnk (s:=s) (i:=0+1+1) (a:=0) (b:=6) (by omega) (by omega) (by omega) with ⟨c0,c1,c2⟩ | ⟨c0,c1⟩
 rotate_left
 ·refine no ?_ ?_
  ·rw [stg,x1,b3]
   exact hb3 _ (hb2 _ _ c1)
  ·unfold fil
   rw [if_neg (by omega),if_neg (show ¬ at' s 1 ≠ 77 from fun h=>h b1),if_pos (show cnt s 2 0 6 < 0 from c0)]
   simp only
   omega
 have c0':0≤cnt s 2 0 6:=c0
 have hc:=rep_lnk (g:=id) (fun i a b=>cls_lnk (s:=s) a b) (cls_bad s) (fun i hi=>.inl (cls_out s i hi)) (cnt s 2 0 6).toNat 3 (by omega) (by omega)
 rcases hc with ⟨d0,d1,d2,d3⟩ | ⟨d0,d1⟩
 rotate_left
 ·refine no ?_ ?_
  ·rw [stg,x1,b3,c2]
   exact hb3 _ d1
  ·unfold fil
   rw [if_neg (by omega),if_neg (show ¬ at' s 1 ≠ 77 from fun h=>h b1),if_neg (show ¬ cnt s 2 0 6 < 0 by omega)]
   simp only
   split
   ·simp only; omega
   ·rw [cnt_out (by omega) (by omega),if_pos (by omega)]
    simp only
    omega
 have d2':(Rd.rep (Rd.cls s) (cnt s 2 0 6).toNat ⟨(3:Int).toNat,false⟩).1=(rep (cls s) (cnt s 2 0 6).toNat 3).1:=by simpa using d2
 rcases cn_lnk (s:=s) (i:=(rep (cls s) (cnt s 2 0 6).toNat 3).2) (a:=1) (b:=6) d0 d1 (by omega) with ⟨e0,e1,e2⟩ | ⟨e0,e1⟩
 rotate_left
 ·refine no ?_ ?_
  ·rw [stg,x1,b3,c2]
   show (Rd.rep (Rd.mth s) (Rd.cn s 1 6 (Rd.rep (Rd.cls s) (cnt s 2 0 6).toNat ⟨(3:Int).toNat,false⟩).2).1.toNat (Rd.cn s 1 6 (Rd.rep (Rd.cls s) (cnt s 2 0 6).toNat ⟨(3:Int).toNat,false⟩).2).2).2.bad=true
   rw [d3]
   exact hb4 _ _ e1
  ·unfold fil
   rw [if_neg (by omega),if_neg (show ¬ at' s 1 ≠ 77 from fun h=>h b1),if_neg (show ¬ cnt s 2 0 6 < 0 by omega)]
   simp only
   rw [if_neg (by omega),if_pos e0]
   simp only
   omega
 have hm:=rep_lnk (g:=Mth.m) (fun i a b=>mth_lnk (s:=s) a b) (mth_bad s) (fun i hi=>.inl (mth_out s i hi)) (cnt s (rep (cls s) (cnt s 2 0 6).toNat 3).2 1 6).toNat ((rep (cls s) (cnt s 2 0 6).toNat 3).2+1) (by omega) (by omega)
 have stg2:(Rd.fil s ⟨0,false⟩).2=(Rd.rep (Rd.mth s) (cnt s (rep (cls s) (cnt s 2 0 6).toNat 3).2 1 6).toNat ⟨((rep (cls s) (cnt s 2 0 6).toNat 3).2+1).toNat,false⟩).2:=by
  rw [stg,x1,b3,c2]
  show (Rd.rep (Rd.mth s) (Rd.cn s 1 6 (Rd.rep (Rd.cls s) (cnt s 2 0 6).toNat ⟨(3:Int).toNat,false⟩).2).1.toNat (Rd.cn s 1 6 (Rd.rep (Rd.cls s) (cnt s 2 0 6).toNat ⟨(3:Int).toNat,false⟩).2).2).2=_
  rw [d3,e2]
 have hfil:∀ ms:List Mth × Int,rep (mth s) (cnt s (rep (cls s) (cnt s 2 0 6).toNat 3).2 1 6).toNat ((rep (cls s) (cnt s 2 0 6).toNat 3).2+1)=ms→fil s=if ms.2 < 0 then ([],[],-1) else ((rep (cls s) (cnt s 2 0 6).toNat 3).1,ms.1,ms.2):=by
  intro ms hms
  unfold fil
  rw [if_neg (by omega),if_neg (show ¬ at' s 1 ≠ 77 from fun h=>h b1),if_neg (show ¬ cnt s 2 0 6 < 0 by omega)]
  simp only
  rw [if_neg (by omega),if_neg (by omega),hms]
 have hf:=hfil _ rfl
 generalize hms:rep (mth s) (cnt s (rep (cls s) (cnt s 2 0 6).toNat 3).2 1 6).toNat ((rep (cls s) (cnt s 2 0 6).toNat 3).2+1)=ms at *
 rcases hm with ⟨m0,m1,m2,m3⟩ | ⟨m0,m1⟩
 ·rw [if_neg (by omega)] at hf
  rw [hf,stg2,m3]
  refine ⟨⟨fun h=>?_,fun h=>?_⟩,fun _=>⟨?_,?_⟩⟩
  ·simp only at h ⊢; omega
  ·simp only at h ⊢; exact ⟨trivial,by omega⟩
  ·have h2:(Rd.fil s ⟨0,false⟩).1.classes=(Rd.rep (Rd.cls s) (Rd.cn s 0 6 (Rd.ex s 77 (Rd.ex s 83 ⟨0,false⟩))).1.toNat (Rd.cn s 0 6 (Rd.ex s 77 (Rd.ex s 83 ⟨0,false⟩))).2).1:=by simp only [Rd.fil]
   rw [h2,x1,b3,c2]
   exact d2'
  ·have h2:(Rd.fil s ⟨0,false⟩).1.methods=(Rd.rep (Rd.mth s) (Rd.cn s 1 6 (Rd.rep (Rd.cls s) (Rd.cn s 0 6 (Rd.ex s 77 (Rd.ex s 83 ⟨0,false⟩))).1.toNat (Rd.cn s 0 6 (Rd.ex s 77 (Rd.ex s 83 ⟨0,false⟩))).2).2).1.toNat
     (Rd.cn s 1 6 (Rd.rep (Rd.cls s) (Rd.cn s 0 6 (Rd.ex s 77 (Rd.ex s 83 ⟨0,false⟩))).1.toNat (Rd.cn s 0 6 (Rd.ex s 77 (Rd.ex s 83 ⟨0,false⟩))).2).2).2).1:=by simp only [Rd.fil]
   rw [h2,x1,b3,c2]
   show (Rd.rep (Rd.mth s) (Rd.cn s 1 6 (Rd.rep (Rd.cls s) (cnt s 2 0 6).toNat ⟨(3:Int).toNat,false⟩).2).1.toNat (Rd.cn s 1 6 (Rd.rep (Rd.cls s) (cnt s 2 0 6).toNat ⟨(3:Int).toNat,false⟩).2).2).1=_
   rw [d3,e2]
   exact m2
 ·refine no (by rw [stg2]; exact m1) ?_
  rw [hf]
  split
  ·simp only; omega
  ·simp only
   omega
end Go.Proofs.YteffpdofcgbokaaGreat.Rf

/-
  How a file that the document's reader read lies in memory.
-/
namespace Go.Proofs.YteffpdofcgbokaaGreat
open Go.RowKit

def RHndsAt (w:World) (b:Nat) (v:Value) (l:List Rd.Hnd):Prop:=w.ownsRow b 73 4 v l.length (hcells l)
theorem RHndsAt.kp {e:Option TypeId}{b:Nat}{v:Value}{l:List Rd.Hnd}{w w':World} (h:RHndsAt w b v l) (hk:Kp e b w w') (hne:some 73 ≠ e):RHndsAt w' b v l:=own_kp h hk hne
theorem RHndsAt.mono {b b':Nat}{v:Value}{l:List Rd.Hnd}{w:World} (h:RHndsAt w b v l) (hb:b'≤b):RHndsAt w b' v l:=own_mono h hb


def RClssIn (w:World) (b:Nat) (v:Value) (l:List (Rd.Cls × Value)):Prop :=
 w.ownsRow b 106 2 v l.length (ccells l)∧∀ p∈l,TysAt w b p.2 p.1.fields
theorem RClssIn.kp {b:Nat}{v:Value}{l:List (Rd.Cls × Value)}{w w':World} (h:RClssIn w b v l) {e:Option TypeId} (hk:Kp e b w w') (hne:some 106 ≠ e) (hne2:some 48 ≠ e):RClssIn w' b v l :=
 ⟨own_kp h.1 hk hne,fun p hp=>(h.2 p hp).kp hk hne2⟩
theorem RClssIn.mono {b b':Nat}{v:Value}{l:List (Rd.Cls × Value)}{w:World} (h:RClssIn w b v l) (hb:b'≤b):RClssIn w b' v l:=⟨own_mono h.1 hb,fun p hp=>(h.2 p hp).mono hb⟩
def RMpsIn (w:World) (b:Nat) (v:Value) (l:List (Rd.Mp × Value × Value)):Prop :=
 w.ownsRow b 77 3 v l.length (mcells l)∧∀ p∈l,TysAt w b p.2.1 p.1.locals∧TysAt w b p.2.2 p.1.stack
theorem RMpsIn.kp {b:Nat}{v:Value}{l:List (Rd.Mp × Value × Value)}{w w':World} (h:RMpsIn w b v l) {e:Option TypeId} (hk:Kp e b w w') (hne:some 77 ≠ e) (hne2:some 48 ≠ e):RMpsIn w' b v l :=
 ⟨own_kp h.1 hk hne,fun p hp=>⟨(h.2 p hp).1.kp hk hne2,(h.2 p hp).2.kp hk hne2⟩⟩
theorem RMpsIn.mono {b b':Nat}{v:Value}{l:List (Rd.Mp × Value × Value)}{w:World} (h:RMpsIn w b v l) (hb:b'≤b):RMpsIn w b' v l:=⟨own_mono h.1 hb,fun p hp=>⟨(h.2 p hp).1.mono hb,(h.2 p hp).2.mono hb⟩⟩
def RMpsAt (w:World) (b:Nat) (v:Value) (ms:List Rd.Mp):Prop:=∃ l,l.map Prod.fst=ms∧RMpsIn w b v l


/-- a method's twelve cells -/
structure RMthV where
 params:Value
 code:ByteArray
 handlers:Value
 maps:Value
def rmthCells (x:Rf.Mth) (u:RMthV):List Value :=
 [.int .i64 x.m.cl,.int .i64 x.m.name,u.params,.int .i64 x.m.result.1,.int .i64 x.m.result.2,.int .i64 x.m.locals,.int .i64 x.m.stack,.string u.code,u.handlers,u.maps,.int .i64 x.mapsAt,.int .i64 x.fin]
def RMthIn (w:World) (b:Nat) (x:Rf.Mth) (u:RMthV):Prop :=
 TysAt w b u.params x.m.params∧u.code.data.toList.map (fun c=>(c.toNat:Int))=x.m.code∧RHndsAt w b u.handlers x.m.handlers∧RMpsAt w b u.maps x.m.maps
theorem RMthIn.kp {b:Nat}{x:Rf.Mth}{u:RMthV}{w w':World} (h:RMthIn w b x u) {e:Option TypeId} (hk:Kp e b w w') (h1:some 48 ≠ e) (h3:some 73 ≠ e) (h4:some 77 ≠ e):RMthIn w' b x u:=by
 obtain ⟨a,c,d,l,hl,f⟩:=h
 exact ⟨a.kp hk h1,c,d.kp hk h3,l,hl,f.kp hk h4 h1⟩
theorem RMthIn.mono {b b':Nat}{x:Rf.Mth}{u:RMthV}{w:World} (h:RMthIn w b x u) (hb:b'≤b):RMthIn w b' x u:=by
 obtain ⟨a,c,d,l,hl,f⟩:=h
 exact ⟨a.mono hb,c,d.mono hb,l,hl,f.mono hb⟩
def rmscells (l:List (Rf.Mth × RMthV)):List Value:=l.flatMap fun x=>rmthCells x.1 x.2
theorem rmscells_snoc (l:List (Rf.Mth × RMthV)) (x:Rf.Mth × RMthV):rmscells (l ++ [x])=rmscells l ++ rmthCells x.1 x.2:=by simp [rmscells]
def RMthsIn (w:World) (b:Nat) (v:Value) (l:List (Rf.Mth × RMthV)):Prop :=
 w.ownsRow b 52 12 v l.length (rmscells l)∧∀ p∈l,RMthIn w b p.1 p.2
theorem RMthsIn.kp {b:Nat}{v:Value}{l:List (Rf.Mth × RMthV)}{w w':World} (h:RMthsIn w b v l) {e:Option TypeId} (hk:Kp e b w w') (h0:some 52 ≠ e) (h1:some 48 ≠ e) (h3:some 73 ≠ e) (h4:some 77 ≠ e):RMthsIn w' b v l :=
 ⟨own_kp h.1 hk h0,fun p hp=>(h.2 p hp).kp hk h1 h3 h4⟩
theorem RMthsIn.mono {b b':Nat}{v:Value}{l:List (Rf.Mth × RMthV)}{w:World} (h:RMthsIn w b v l) (hb:b'≤b):RMthsIn w b' v l:=⟨own_mono h.1 hb,fun p hp=>(h.2 p hp).mono hb⟩
end Go.Proofs.YteffpdofcgbokaaGreat

/-
  The walks over the document's reader: at, count, types, readClass.
-/
namespace Go.Proofs.YteffpdofcgbokaaGreat
open Go.RowKit

theorem at_hit {s:ByteArray}{i:Nat} (h:i < s.size):Rf.at' s.data.toList (i:Int)=(s[i].toNat:Int):=by
 have h':i < s.data.toList.length:=by simpa using h
 have e:s.data.toList[i]?.getD 0=s[i]:=by rw [List.getElem?_eq_getElem h']; rfl
 unfold Rf.at'
 rw [if_neg (by omega),if_neg (by omega),Int.toNat_natCast,e]

set_option maxRecDepth 100000 in
set_option maxHeartbeats 400000 in
theorem rat_any (s:ByteArray) (i:Int) (w:World) (_hs:s.size≤maxLen) :
  Calls Tryz.prog 45 #[.string s,.int .i64 i] w fun e w'=>e=.returned (.int .i64 (Rf.at' s.data.toList i))∧w=w':=by
 have hl:s.data.toList.length=s.size:=by simp
 by_cases h0:i < 0
 ·have e:Rf.at' s.data.toList i = -1:=by unfold Rf.at'; rw [if_pos h0]
  rw [e]
  go_enter Tryz.func45,Tryz.ntmps45
  go_wp2
  go_ret
  exact ⟨rfl,rfl⟩
 ·by_cases h1:(s.size:Int)≤i
  ·rw [Rf.at_out (by omega)]
   go_enter Tryz.func45,Tryz.ntmps45
   go_wp2
   go_ret
   exact ⟨rfl,rfl⟩
  ·obtain ⟨k,rfl⟩:=Int.eq_ofNat_of_zero_le (show 0≤i by omega)
   have hk:k < s.size:=by omega
   rw [at_hit hk]
   go_enter Tryz.func45,Tryz.ntmps45
   go_wp2
   go_ret
   exact ⟨ret_int (wrap_byte _),rfl⟩

set_option maxRecDepth 100000 in
set_option maxHeartbeats 400000 in
theorem rcount_any (s:ByteArray) (i least most:Int) (w:World) (hs:s.size≤maxLen) :
  Calls Tryz.prog 46 #[.string s,.int .i64 i,.int .i64 least,.int .i64 most] w fun e w'=>e=.returned (.int .i64 (Rf.cnt s.data.toList i least most))∧w=w':=by
 unfold Rf.cnt
 generalize hr:Rf.at' s.data.toList i=r
 have HR:=hide hr
 clear hr
 by_cases h1:r < least
 ·rw [if_pos h1]
  go_enter Tryz.func46,Tryz.ntmps46
  go_wp2_with (go_at_call 45; refine (rat_any s i _ hs).mono ?_; rw [unhide HR]; rintro e w1 ⟨rfl,rfl⟩)
  go_ret
  exact ⟨rfl,rfl⟩
 ·rw [if_neg h1]
  by_cases h2:most < r
  ·rw [if_pos h2]
   go_enter Tryz.func46,Tryz.ntmps46
   go_wp2_with (go_at_call 45; refine (rat_any s i _ hs).mono ?_; rw [unhide HR]; rintro e w1 ⟨rfl,rfl⟩)
   go_ret
   exact ⟨rfl,rfl⟩
  ·rw [if_neg h2]
   go_enter Tryz.func46,Tryz.ntmps46
   go_wp2_with (go_at_call 45; refine (rat_any s i _ hs).mono ?_; rw [unhide HR]; rintro e w1 ⟨rfl,rfl⟩)
   go_ret
   exact ⟨rfl,rfl⟩

theorem rtys_len (s:List UInt8) (i:Int) (n:Nat):(Rf.tys s i n).length=n:=by
 induction n with
 | zero=>rfl
 | succ k ih=>simp [Rf.tys,ih]

set_option maxRecDepth 100000 in
set_option maxHeartbeats 1000000 in
theorem rtypes_any (s:ByteArray) (i n:Int) (w:World) (hs:s.size≤maxLen) (hi0:0≤i) (hi1:i≤1000000) (hn0:0≤n) (hn1:n≤255) :
  Calls Tryz.prog 79 #[.string s,.int .i64 i,.int .i64 n] w fun e w' =>
   ∃ a c,e=.returned (.slice a n.toNat c)∧TysAt w' w.heap.size (.slice a n.toNat c) (Rf.tys s.data.toList i n.toNat)∧Below w.heap.size w w':=by
 obtain ⟨i0,hi,hz0,hz1,hz2⟩:=info_parts Tryz.infoType
 go_enter Tryz.func79,Tryz.ntmps79
 go_wp2
 go_loopw [7,8] (fun v j wr=>∃ k:Nat,(k:Int)≤n∧j=.int .i64 k∧wr.ownsRow w.heap.size 48 2 v k (tcells (Rf.tys s.data.toList i k))∧Below w.heap.size w wr)
  (fun _ j _=>n.toNat - (intOf j).toNat)
 case atStart=>exact ⟨0,by omega,rfl,World.ownsRow_nil _ _ _ _,Below.refl _ _⟩
 case round =>
  obtain ⟨k,hk,rfl,hown,hbl⟩:=hrel
  have hsz:=hbl.size
  by_cases hkn:(k:Int) < n
  ·generalize hp:Rf.tys s.data.toList i k=p at *
   generalize ha:Rf.at' s.data.toList (i+2 * (k:Int))=x at *
   generalize hb:Rf.at' s.data.toList (i+2 * (k:Int)+1)=y at *
   have HE:Hid (Rf.tys s.data.toList i (k+1)=p ++ [(x,y)]):=by unfold Hid; rw [Rf.tys,hp,ha,hb]
   have HA:=hide ha
   have HB:=hide hb
   clear hp ha hb
   go_wp2_with fail
   refine (rat_any s (i+2 * (k:Int)) _ hs).mono ?_
   rw [unhide HA]
   rintro e w1 ⟨rfl,rfl⟩
   go_wp2_with fail
   refine (rat_any s (i+2 * (k:Int)+1) _ hs).mono ?_
   rw [unhide HB]
   rintro e w1 ⟨rfl,rfl⟩
   go_wp2_with (at_builtin; refine wpList_append_own _ rfl _ _ 46 rfl w.heap.size 48 i0 _ 2 16 Tryz.underlying46 hi hz0 hz1 hz2 rfl (by decide) _ _ _ rfl (hown.alloc _) ⟨wr.heap.size,0,none⟩ 1 1 [.int .i64 x,.int .i64 y] rfl rfl ?c1 ?c2 ?c3 ?c4 ?c5 ?_)
   case c1=>exact cells_new _ _ _ _ rfl
   case c2=>intro u hu; simp at hu; rcases hu with rfl | rfl <;> rfl
   case c3=>unfold maxLen; omega
   case c4=>omega
   case c5=>simp; omega
   intro v' w2 hown2 hgrow _
   have hown3:w2.ownsRow w.heap.size 48 2 v' (k+1) (tcells (Rf.tys s.data.toList i (k+1))):=by
    rw [unhide HE,tcells_snoc]; exact hown2
   have hbl2:=(hbl.alloc hsz (.cells #[.int .i64 x,.int .i64 y] 48)).grown hgrow (by simp; omega) (fun j hj=>(hown.lt j hj).1)
   clear hgrow hown hown2 hbl
   go_wp2
   go_roundw
   case rel=>exact ⟨k+1,by omega,by go_num,hown3,hbl2⟩
   case measure=>simp [intOf]; omega
  ·obtain rfl:k=n.toNat:=by omega
   obtain ⟨va,vc,rfl⟩:=own_shape hown
   go_wp2
   go_ret
   refine ⟨_,_,rfl,?_,hbl⟩
   unfold TysAt
   rw [rtys_len]
   exact hown

set_option maxRecDepth 100000 in
set_option maxHeartbeats 1000000 in
theorem rclass_any (s:ByteArray) (i:Int) (w:World) (hs:s.size≤maxLen) (hi0:0≤i) (hi1:i≤100000) :
  Calls Tryz.prog 47 #[.string s,.int .i64 i] w fun e w' =>
   ∃ x a n c,e=.returned (.tuple #[.agg #[.int .i64 x,.slice a n c],.int .i64 (Rf.cls s.data.toList i).2]) ∧
    (0≤(Rf.cls s.data.toList i).2→x=(Rf.cls s.data.toList i).1.above∧TysAt w' w.heap.size (.slice a n c) (Rf.cls s.data.toList i).1.fields)∧Below w.heap.size w w':=by
 unfold Rf.cls
 generalize hr:Rf.cnt s.data.toList (i+1) 0 4=r
 have hb:=Rf.cnt_bd s.data.toList (i+1) 0 4 (by omega)
 rw [hr] at hb
 obtain ⟨hb0,hb1⟩:=hb
 have HR:=hide hr
 clear hr
 by_cases h0:r < 0
 ·rw [if_pos h0]
  go_enter Tryz.func47,Tryz.ntmps47
  go_wp2_with fail
  refine (rcount_any s (i+1) 0 4 _ hs).mono ?_
  rw [unhide HR]
  rintro e w1 ⟨rfl,rfl⟩
  go_wp2_with fail
  refine bodyPost_ret (v:=.tuple #[.agg #[.int .i64 0,.slice none 0 0],.int .i64 (-1)]) (by simp [results,Tryz.results47,go_sem]) rfl ?_
  exact ⟨0,none,0,0,rfl,fun h=>absurd h (by decide),(Below.refl _ _).alloc (Nat.le_refl _) _⟩
 ·rw [if_neg h0]
  generalize hx:Rf.at' s.data.toList i=x
  have HX:=hide hx
  clear hx
  go_enter Tryz.func47,Tryz.ntmps47
  go_wp2_with fail
  refine (rcount_any s (i+1) 0 4 _ hs).mono ?_
  rw [unhide HR]
  rintro e w1 ⟨rfl,rfl⟩
  go_wp2_with fail
  refine (rat_any s i _ hs).mono ?_
  rw [unhide HX]
  rintro e w1 ⟨rfl,rfl⟩
  go_wp2_with fail
  refine (rtypes_any s (i+2) r _ hs (by omega) (by omega) (by omega) (by omega)).mono ?_
  rintro e w1 ⟨a,c,rfl,ht,hb1⟩
  have hC:=(hb1.block w.heap.size (by simp)).trans (alloc_blk w _)
  have y0:=blk_cell hC 0
  have y1:=blk_cell hC 1
  have f0:=blk_free hC 0
  have f1:=blk_free hC 1
  simp at y0 y1
  have hB:Below w.heap.size w w1:=((Below.refl _ _).alloc (Nat.le_refl _) _).trans (hb1.mono (by simp))
  go_wp2_with fail
  refine bodyPost_ret (v:=.tuple #[.agg #[.int .i64 x,.slice a r.toNat c],.int .i64 (i+2+2 * r)]) (by simp [results,Tryz.results47,go_sem,y0,y1]) rfl ?_
  refine ⟨_,_,_,_,rfl,fun _=>⟨rfl,?_⟩,(hB.setCell (by simp) _).setCell (by simp) _⟩
  exact own_mono (ownsRow_setCell_below (ownsRow_setCell_below ht (by simp) _) (by simp) _) (by simp)
end Go.Proofs.YteffpdofcgbokaaGreat
