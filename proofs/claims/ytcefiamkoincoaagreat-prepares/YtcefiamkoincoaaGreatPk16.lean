/- a part of the proof -/
import Derived.Deep.Cut
import Derived.Deep.RegionHeld3
import Derived.Test.YtcefiamkoincoaaGreatPk15
set_option maxRecDepth 100000
set_option maxHeartbeats 40000000
set_option linter.unusedVariables false
set_option linter.unusedSimpArgs false
namespace Go.Proofs.YtcefiamkoincoaaGreat
open Go.RowKit
def Aa0 (st:Int) (y:Option Zt):Option Zt:=y.bind fun z=>if (z.stack.length:Int)≤st then some z else none
theorem Un (f:RFl) (m:RMV) (p:Nat) (v:FrV) (P:Option Zt) (w:World)
  (hM:∀ w',Below w.heap.size w w'→Calls Tryz.prog 179 #[f.val,m.val,.int .i64 (p:Int),v.val] w' fun e w''=>∃ u:FrV,e=.returned (.tuple #[u.val,.bool P.isSome])∧(∀ y,P=some y→u.is y w'')∧Below w'.heap.size w' w'') :
  Calls Tryz.prog 139 #[f.val,m.val,.int .i64 (p:Int),v.val] w fun e w' =>
   ∃ u:FrV,e=.returned (.tuple #[u.val,.bool (Aa0 m.st P).isSome])∧(∀ y,Aa0 m.st P=some y→u.is y w')∧Below w.heap.size w w':=by
 obtain⟨fa1,fc1,fa2,fc2,bb,l,ms⟩:=f;obtain⟨cl,nm,pa,pl,pc,r1,r2,lo,st,code,ha,hl,hc,ma,ml,mc,mAt,fin⟩:=m;obtain⟨la,ln,lc,sa,sn,sc⟩:=v;simp only[RMV.val,RFl.val,FrV.val]at hM ⊢;have HM:=Ac hM;clear hM;have hB0:=Bp w (O11 fa1 l.length fc1 fa2 ms.length fc2) (O14 cl nm pa pl pc r1 r2 lo st code ha hl hc ma ml mc mAt fin) (O25 la ln lc sa sn sc) (O25 none 0 0 none 0 0);obtain⟨F0,M0,X0,Z0⟩:=Bf w (O11 fa1 l.length fc1 fa2 ms.length fc2) (O14 cl nm pa pl pc r1 r2 lo st code ha hl hc ma ml mc mAt fin) (O25 la ln lc sa sn sc) (O25 none 0 0 none 0 0);cases P with
 | none =>
  go_enter Tryz.func139,Tryz.ntmps139;go_wp2_with fail
  refine(Aa HM _ hB0).mono ?_;rintro e w1 ⟨u,rfl,-,hb1⟩;obtain⟨ua,un,uc,va,vn,vc⟩:=u;have hB1:=QB hB0 hb1;have hs1:=hB1.size;have M1:=stay hb1 M0;have Z1:=stay hb1 Z0;obtain⟨z0,z1⟩:=cl2 Z1;obtain⟨q0,q1⟩:=fr2 Z1;have m6:=Ab M1 6;have lM:=lt_of_block M1;have lZ:=lt_of_block Z1;simp at z0 z1 m6;clear F0 M0 X0 Z0 hb1 HM;have YA:=Ad w1 (O25 ua un uc va vn vc);have MA:=Aj M1 (O25 ua un uc va vn vc);have y0:(w1.alloc (O25 ua un uc va vn vc)).cell? ⟨w1.heap.size,0,none⟩=some (.slice ua un uc):=(Ab YA 0).trans rfl;have y1:(w1.alloc (O25 ua un uc va vn vc)).cell? ⟨w1.heap.size,1,none⟩=some (.slice va vn vc):=(Ab YA 1).trans rfl;have mm:(w1.alloc (O25 ua un uc va vn vc)).cell? ⟨w.heap.size+1,6,none⟩=some (.int .i64 st):=(Ab MA 6).trans rfl;have hsz:((w1.setCell ⟨w.heap.size+1+1+1,0,none⟩ (.slice ua un uc)).setCell ⟨w.heap.size+1+1+1,1,none⟩ (.slice va vn vc)).heap.size=w1.heap.size:=by simp[World.setCell]
  have YB:=Ad ((w1.setCell ⟨w.heap.size+1+1+1,0,none⟩ (.slice ua un uc)).setCell ⟨w.heap.size+1+1+1,1,none⟩ (.slice va vn vc)) (O25 ua un uc va vn vc);rw[hsz]at YB;have MB:(((w1.setCell ⟨w.heap.size+1+1+1,0,none⟩ (.slice ua un uc)).setCell ⟨w.heap.size+1+1+1,1,none⟩ (.slice va vn vc)).alloc (O25 ua un uc va vn vc)).heap[w.heap.size+1]?=_:=Aj ((Below.heap_setCell _ _ _ _ (by simp)).trans ((Below.heap_setCell _ _ _ _ (by simp)).trans M1)) (O25 ua un uc va vn vc);have y0':(((w1.setCell ⟨w.heap.size+1+1+1,0,none⟩ (.slice ua un uc)).setCell ⟨w.heap.size+1+1+1,1,none⟩ (.slice va vn vc)).alloc (O25 ua un uc va vn vc)).cell? ⟨w1.heap.size,0,none⟩=some (.slice ua un uc):=(Ab YB 0).trans rfl;have y1':(((w1.setCell ⟨w.heap.size+1+1+1,0,none⟩ (.slice ua un uc)).setCell ⟨w.heap.size+1+1+1,1,none⟩ (.slice va vn vc)).alloc (O25 ua un uc va vn vc)).cell? ⟨w1.heap.size,1,none⟩=some (.slice va vn vc):=(Ab YB 1).trans rfl;have mm':(((w1.setCell ⟨w.heap.size+1+1+1,0,none⟩ (.slice ua un uc)).setCell ⟨w.heap.size+1+1+1,1,none⟩ (.slice va vn vc)).alloc (O25 ua un uc va vn vc)).cell? ⟨w.heap.size+1,6,none⟩=some (.int .i64 st):=(Ab MB 6).trans rfl;have hB8:=((hB1.setCell (p:=⟨w.heap.size+1+1+1,0,none⟩) (by simp;omega) (.slice ua un uc)).setCell (p:=⟨w.heap.size+1+1+1,1,none⟩) (by simp;omega) (.slice va vn vc));have hB9:=(hB8.alloc (by rw[hsz];exact hs1) (O25 ua un uc va vn vc)).drew;clear hsz YB MB;go_wp2;refine wp_region_held_drew (S:=(fun w'=>w'.cell? ⟨w1.heap.size,0,none⟩=some (.slice ua un uc)∧w'.cell? ⟨w1.heap.size,1,none⟩=some (.slice va vn vc)∧w'.cell? ⟨w.heap.size+1,6,none⟩=some (.int .i64 st))) (by kernel_rfl) ⟨y0,y1,mm⟩ (fun hHeld=>?_);refine wpAnyH_take (i:=0) (oi:=⟨_,_,_,_,_,_⟩) (v:=.agg #[.slice ua un uc,.slice va vn vc]) rfl (by kernel_rfl) (by kernel_rfl) (by kernel_rfl) (fun _ _ _ h=>h) (Or.inl ⟨by rfl,?_⟩) hHeld ?_
  ·intro w' hSw
   try dsimp only at hSw
   go_simp
  try simp only[QX]
  refine wpAnyH_take (i:=1) (oi:=⟨_,_,_,_,_,_⟩) (v:=.bool false) rfl (by kernel_rfl) (by kernel_rfl) (by kernel_rfl) (fun _ _ _ h=>h) (Or.inl ⟨by rfl,?_⟩) hHeld ?_
  ·intro w' hSw
   try dsimp only at hSw
   go_simp
  try simp only[QX]
  refine wpAnyH_take (i:=2) (oi:=⟨_,_,_,_,_,_⟩) (v:=.bool false) rfl (by kernel_rfl) (by kernel_rfl) (by kernel_rfl) (fun _ _ _ h=>h) (Or.inl ⟨by rfl,?_⟩) hHeld ?_
  ·intro w' hSw
   try dsimp only at hSw
   go_simp
  try simp only[QX]
  refine wpAnyH_take (i:=3) (oi:=⟨_,_,_,_,_,_⟩) (v:=undef) rfl (by kernel_rfl) (by kernel_rfl) (by kernel_rfl) (fun _ _ _ h=>h) (Or.inr ⟨by rfl,rfl⟩) hHeld ?_
  try simp only[QX]
  refine wpAnyH_take (i:=4) (oi:=⟨_,_,_,_,_,_⟩) (v:=undef) rfl (by kernel_rfl) (by kernel_rfl) (by kernel_rfl) (fun _ _ _ h=>h) (Or.inr ⟨by rfl,rfl⟩) hHeld ?_
  try simp only[QX]
  refine wpAnyH_take (i:=5) (oi:=⟨_,_,_,_,_,_⟩) (v:=undef) rfl (by kernel_rfl) (by kernel_rfl) (by kernel_rfl) (fun _ _ _ h=>h) (Or.inr ⟨by rfl,rfl⟩) hHeld ?_
  try simp only[QX]
  refine wpAnyH_take (i:=6) (oi:=⟨_,_,_,_,_,_⟩) (v:=undef) rfl (by kernel_rfl) (by kernel_rfl) (by kernel_rfl) (fun _ _ _ h=>h) (Or.inr ⟨by rfl,rfl⟩) hHeld ?_
  try simp only[QX]
  refine wpAnyH_take (i:=7) (oi:=⟨_,_,_,_,_,_⟩) (v:=undef) rfl (by kernel_rfl) (by kernel_rfl) (by kernel_rfl) (fun _ _ _ h=>h) (Or.inr ⟨by rfl,rfl⟩) hHeld ?_
  try simp only[QX]
  refine wpAnyH_take (i:=8) (oi:=⟨_,_,_,_,_,_⟩) (v:=undef) rfl (by kernel_rfl) (by kernel_rfl) (by kernel_rfl) (fun _ _ _ h=>h) (Or.inr ⟨by rfl,rfl⟩) hHeld ?_
  try simp only[QX]
  refine wpAnyH_take (i:=9) (oi:=⟨_,_,_,_,_,_⟩) (v:=.bool false) rfl (by kernel_rfl) (by kernel_rfl) (by kernel_rfl) (fun _ _ _ h=>h) (Or.inl ⟨by rfl,?_⟩) hHeld ?_
  ·intro w' hSw
   try dsimp only at hSw
   go_simp
  try simp only[QX]
  refine wpAnyH_ready (rs:=[10]) (by kernel_rfl) (by simp) ?_;refine AllReadyH.cons (o:=⟨_,_,_,_,_,_⟩) rfl (fun K hK=>?_) AllReadyH.nil
  go_simp
  clear hHeld;refine hK.out _ _ ⟨y0',y1',mm'⟩ (fun hHeld=>?_);clear hK K
  try simp only[QX]
  refine wpAnyH_take (i:=11) (oi:=⟨_,_,_,_,_,_⟩) (v:=.bool false) rfl (by kernel_rfl) (by kernel_rfl) (by kernel_rfl) (fun _ _ _ h=>h) (Or.inl ⟨by rfl,?_⟩) hHeld ?_
  ·intro w' hSw
   try dsimp only at hSw
   go_simp
  try simp only[QX]
  refine wpAnyH_done (by kernel_rfl) ?_ _;go_wp2_with fail
  refine bodyPost_ret (v:=.tuple #[.agg #[.slice ua un uc,.slice va vn vc],.bool false]) (by simp[results,Tryz.results139,go_sem,z0,z1,lZ]) rfl ?_;exact⟨⟨ua,un,uc,va,vn,vc⟩,rfl,fun y hy=>by simp[Aa0]at hy,hB9⟩
 | some y =>
  by_cases hle:(y.stack.length:Int)≤st
  ·have HE:Hid (Aa0 st (some y)=some y):=if_pos hle;go_enter Tryz.func139,Tryz.ntmps139;go_wp2_with fail
   refine(Aa HM _ hB0).mono ?_;rintro e w1 ⟨u,rfl,hu,hb1⟩;obtain⟨ua,un,uc,va,vn,vc⟩:=u;have hB1:=QB hB0 hb1;have hs1:=hB1.size;have M1:=stay hb1 M0;have Z1:=stay hb1 Z0;obtain⟨z0,z1⟩:=cl2 Z1;obtain⟨q0,q1⟩:=fr2 Z1;have m6:=Ab M1 6;have lM:=lt_of_block M1;have lZ:=lt_of_block Z1;simp at z0 z1 m6;clear F0 M0 X0 Z0 hb1 HM;have hy:=hu y rfl;obtain⟨hvn,-,-⟩:=hy.st.cap;simp only at hvn;subst hvn;have YA:=Ad w1 (O25 ua un uc va y.stack.length vc);have MA:=Aj M1 (O25 ua un uc va y.stack.length vc);have y0:(w1.alloc (O25 ua un uc va y.stack.length vc)).cell? ⟨w1.heap.size,0,none⟩=some (.slice ua un uc):=(Ab YA 0).trans rfl;have y1:(w1.alloc (O25 ua un uc va y.stack.length vc)).cell? ⟨w1.heap.size,1,none⟩=some (.slice va y.stack.length vc):=(Ab YA 1).trans rfl;have mm:(w1.alloc (O25 ua un uc va y.stack.length vc)).cell? ⟨w.heap.size+1,6,none⟩=some (.int .i64 st):=(Ab MA 6).trans rfl;have hsz:((w1.setCell ⟨w.heap.size+1+1+1,0,none⟩ (.slice ua un uc)).setCell ⟨w.heap.size+1+1+1,1,none⟩ (.slice va y.stack.length vc)).heap.size=w1.heap.size:=by simp[World.setCell]
   have YB:=Ad ((w1.setCell ⟨w.heap.size+1+1+1,0,none⟩ (.slice ua un uc)).setCell ⟨w.heap.size+1+1+1,1,none⟩ (.slice va y.stack.length vc)) (O25 ua un uc va y.stack.length vc);rw[hsz]at YB;have MB:(((w1.setCell ⟨w.heap.size+1+1+1,0,none⟩ (.slice ua un uc)).setCell ⟨w.heap.size+1+1+1,1,none⟩ (.slice va y.stack.length vc)).alloc (O25 ua un uc va y.stack.length vc)).heap[w.heap.size+1]?=_:=Aj ((Below.heap_setCell _ _ _ _ (by simp)).trans ((Below.heap_setCell _ _ _ _ (by simp)).trans M1)) (O25 ua un uc va y.stack.length vc);have y0':(((w1.setCell ⟨w.heap.size+1+1+1,0,none⟩ (.slice ua un uc)).setCell ⟨w.heap.size+1+1+1,1,none⟩ (.slice va y.stack.length vc)).alloc (O25 ua un uc va y.stack.length vc)).cell? ⟨w1.heap.size,0,none⟩=some (.slice ua un uc):=(Ab YB 0).trans rfl;have y1':(((w1.setCell ⟨w.heap.size+1+1+1,0,none⟩ (.slice ua un uc)).setCell ⟨w.heap.size+1+1+1,1,none⟩ (.slice va y.stack.length vc)).alloc (O25 ua un uc va y.stack.length vc)).cell? ⟨w1.heap.size,1,none⟩=some (.slice va y.stack.length vc):=(Ab YB 1).trans rfl;have mm':(((w1.setCell ⟨w.heap.size+1+1+1,0,none⟩ (.slice ua un uc)).setCell ⟨w.heap.size+1+1+1,1,none⟩ (.slice va y.stack.length vc)).alloc (O25 ua un uc va y.stack.length vc)).cell? ⟨w.heap.size+1,6,none⟩=some (.int .i64 st):=(Ab MB 6).trans rfl;have hB8:=((hB1.setCell (p:=⟨w.heap.size+1+1+1,0,none⟩) (by simp;omega) (.slice ua un uc)).setCell (p:=⟨w.heap.size+1+1+1,1,none⟩) (by simp;omega) (.slice va y.stack.length vc));have hB9:=(hB8.alloc (by rw[hsz];exact hs1) (O25 ua un uc va y.stack.length vc)).drew;clear hsz YB MB;go_wp2;refine wp_region_held_drew (S:=(fun w'=>w'.cell? ⟨w1.heap.size,0,none⟩=some (.slice ua un uc)∧w'.cell? ⟨w1.heap.size,1,none⟩=some (.slice va y.stack.length vc)∧w'.cell? ⟨w.heap.size+1,6,none⟩=some (.int .i64 st))) (by kernel_rfl) ⟨y0,y1,mm⟩ (fun hHeld=>?_);refine wpAnyH_take (i:=0) (oi:=⟨_,_,_,_,_,_⟩) (v:=.agg #[.slice ua un uc,.slice va y.stack.length vc]) rfl (by kernel_rfl) (by kernel_rfl) (by kernel_rfl) (fun _ _ _ h=>h) (Or.inl ⟨by rfl,?_⟩) hHeld ?_
   ·intro w' hSw
    try dsimp only at hSw
    go_simp
   try simp only[QX]
   refine wpAnyH_take (i:=1) (oi:=⟨_,_,_,_,_,_⟩) (v:=.bool true) rfl (by kernel_rfl) (by kernel_rfl) (by kernel_rfl) (fun _ _ _ h=>h) (Or.inl ⟨by rfl,?_⟩) hHeld ?_
   ·intro w' hSw
    try dsimp only at hSw
    go_simp
   try simp only[QX]
   refine wpAnyH_take (i:=2) (oi:=⟨_,_,_,_,_,_⟩) (v:=.bool true) rfl (by kernel_rfl) (by kernel_rfl) (by kernel_rfl) (fun _ _ _ h=>h) (Or.inl ⟨by rfl,?_⟩) hHeld ?_
   ·intro w' hSw
    try dsimp only at hSw
    go_simp
   try simp only[QX]
   refine wpAnyH_take (i:=3) (oi:=⟨_,_,_,_,_,_⟩) (v:=.pointer (some ⟨w1.heap.size,1,none⟩)) rfl (by kernel_rfl) (by kernel_rfl) (by kernel_rfl) (fun _ _ _ h=>h) (Or.inl ⟨by rfl,?_⟩) hHeld ?_
   ·intro w' hSw
    try dsimp only at hSw
    go_simp
   try simp only[QX]
   refine wpAnyH_take (i:=4) (oi:=⟨_,_,_,_,_,_⟩) (v:=.slice va y.stack.length vc) rfl (by kernel_rfl) (by kernel_rfl) (by kernel_rfl) (fun _ _ _ h=>h) (Or.inl ⟨by rfl,?_⟩) hHeld ?_
   ·intro w' hSw
    try dsimp only at hSw
    go_simp
   try simp only[QX]
   refine wpAnyH_take (i:=5) (oi:=⟨_,_,_,_,_,_⟩) (v:=.int .i64 (y.stack.length:Int)) rfl (by kernel_rfl) (by kernel_rfl) (by kernel_rfl) (fun _ _ _ h=>h) (Or.inl ⟨by rfl,?_⟩) hHeld ?_
   ·intro w' hSw
    try dsimp only at hSw
    go_simp
   try simp only[QX]
   refine wpAnyH_take (i:=6) (oi:=⟨_,_,_,_,_,_⟩) (v:=.pointer (some ⟨w.heap.size+1,6,none⟩)) rfl (by kernel_rfl) (by kernel_rfl) (by kernel_rfl) (fun _ _ _ h=>h) (Or.inl ⟨by rfl,?_⟩) hHeld ?_
   ·intro w' hSw
    try dsimp only at hSw
    go_simp
   try simp only[QX]
   refine wpAnyH_take (i:=7) (oi:=⟨_,_,_,_,_,_⟩) (v:=.int .i64 st) rfl (by kernel_rfl) (by kernel_rfl) (by kernel_rfl) (fun _ _ _ h=>h) (Or.inl ⟨by rfl,?_⟩) hHeld ?_
   ·intro w' hSw
    try dsimp only at hSw
    go_simp
   try simp only[QX]
   refine wpAnyH_take (i:=8) (oi:=⟨_,_,_,_,_,_⟩) (v:=.bool true) rfl (by kernel_rfl) (by kernel_rfl) (by kernel_rfl) (fun _ _ _ h=>h) (Or.inl ⟨by rfl,?_⟩) hHeld ?_
   ·intro w' hSw
    try dsimp only at hSw
    go_simp
   try simp only[QX]
   refine wpAnyH_take (i:=9) (oi:=⟨_,_,_,_,_,_⟩) (v:=.bool true) rfl (by kernel_rfl) (by kernel_rfl) (by kernel_rfl) (fun _ _ _ h=>h) (Or.inl ⟨by rfl,?_⟩) hHeld ?_
   ·intro w' hSw
    try dsimp only at hSw
    go_simp
   try simp only[QX]
   refine wpAnyH_ready (rs:=[10]) (by kernel_rfl) (by simp) ?_;refine AllReadyH.cons (o:=⟨_,_,_,_,_,_⟩) rfl (fun K hK=>?_) AllReadyH.nil
   go_simp
   clear hHeld;refine hK.out _ _ ⟨y0',y1',mm'⟩ (fun hHeld=>?_);clear hK K
   try simp only[QX]
   refine wpAnyH_take (i:=11) (oi:=⟨_,_,_,_,_,_⟩) (v:=.bool true) rfl (by kernel_rfl) (by kernel_rfl) (by kernel_rfl) (fun _ _ _ h=>h) (Or.inl ⟨by rfl,?_⟩) hHeld ?_
   ·intro w' hSw
    try dsimp only at hSw
    go_simp
   try simp only[QX]
   refine wpAnyH_done (by kernel_rfl) ?_ _;go_wp2_with fail
   refine bodyPost_ret (v:=.tuple #[.agg #[.slice ua un uc,.slice va y.stack.length vc],.bool true]) (by simp[results,Tryz.results139,go_sem,z0,z1,lZ]) rfl ?_;rw[Aa HE];refine⟨⟨ua,un,uc,va,y.stack.length,vc⟩,rfl,fun z hz=>?_,hB9⟩;simp only[Option.some.injEq]at hz;subst hz;have hb:Below _ _ _:=((Below.refl ((w1.setCell ⟨w.heap.size+1+1+1,0,none⟩ (.slice ua un uc)).setCell ⟨w.heap.size+1+1+1,1,none⟩ (.slice va y.stack.length vc)).heap.size ((w1.setCell ⟨w.heap.size+1+1+1,0,none⟩ (.slice ua un uc)).setCell ⟨w.heap.size+1+1+1,1,none⟩ (.slice va y.stack.length vc))).alloc (Nat.le_refl _) (O25 ua un uc va y.stack.length vc)).drew;exact⟨(hy.lo.set_frame Z1 _ _).below hb,(hy.st.set_frame Z1 _ _).below hb,hy.hl,hy.hs⟩
  ·have HE:Hid (Aa0 st (some y)=none):=if_neg hle;have hle':st<(y.stack.length:Int):=by omega
   go_enter Tryz.func139,Tryz.ntmps139;go_wp2_with fail
   refine(Aa HM _ hB0).mono ?_;rintro e w1 ⟨u,rfl,hu,hb1⟩;obtain⟨ua,un,uc,va,vn,vc⟩:=u;have hB1:=QB hB0 hb1;have hs1:=hB1.size;have M1:=stay hb1 M0;have Z1:=stay hb1 Z0;obtain⟨z0,z1⟩:=cl2 Z1;obtain⟨q0,q1⟩:=fr2 Z1;have m6:=Ab M1 6;have lM:=lt_of_block M1;have lZ:=lt_of_block Z1;simp at z0 z1 m6;clear F0 M0 X0 Z0 hb1 HM;have hy:=hu y rfl;obtain⟨hvn,-,-⟩:=hy.st.cap;simp only at hvn;subst hvn;have YA:=Ad w1 (O25 ua un uc va y.stack.length vc);have MA:=Aj M1 (O25 ua un uc va y.stack.length vc);have y0:(w1.alloc (O25 ua un uc va y.stack.length vc)).cell? ⟨w1.heap.size,0,none⟩=some (.slice ua un uc):=(Ab YA 0).trans rfl;have y1:(w1.alloc (O25 ua un uc va y.stack.length vc)).cell? ⟨w1.heap.size,1,none⟩=some (.slice va y.stack.length vc):=(Ab YA 1).trans rfl;have mm:(w1.alloc (O25 ua un uc va y.stack.length vc)).cell? ⟨w.heap.size+1,6,none⟩=some (.int .i64 st):=(Ab MA 6).trans rfl;have hsz:((w1.setCell ⟨w.heap.size+1+1+1,0,none⟩ (.slice ua un uc)).setCell ⟨w.heap.size+1+1+1,1,none⟩ (.slice va y.stack.length vc)).heap.size=w1.heap.size:=by simp[World.setCell]
   have YB:=Ad ((w1.setCell ⟨w.heap.size+1+1+1,0,none⟩ (.slice ua un uc)).setCell ⟨w.heap.size+1+1+1,1,none⟩ (.slice va y.stack.length vc)) (O25 ua un uc va y.stack.length vc);rw[hsz]at YB;have MB:(((w1.setCell ⟨w.heap.size+1+1+1,0,none⟩ (.slice ua un uc)).setCell ⟨w.heap.size+1+1+1,1,none⟩ (.slice va y.stack.length vc)).alloc (O25 ua un uc va y.stack.length vc)).heap[w.heap.size+1]?=_:=Aj ((Below.heap_setCell _ _ _ _ (by simp)).trans ((Below.heap_setCell _ _ _ _ (by simp)).trans M1)) (O25 ua un uc va y.stack.length vc);have y0':(((w1.setCell ⟨w.heap.size+1+1+1,0,none⟩ (.slice ua un uc)).setCell ⟨w.heap.size+1+1+1,1,none⟩ (.slice va y.stack.length vc)).alloc (O25 ua un uc va y.stack.length vc)).cell? ⟨w1.heap.size,0,none⟩=some (.slice ua un uc):=(Ab YB 0).trans rfl;have y1':(((w1.setCell ⟨w.heap.size+1+1+1,0,none⟩ (.slice ua un uc)).setCell ⟨w.heap.size+1+1+1,1,none⟩ (.slice va y.stack.length vc)).alloc (O25 ua un uc va y.stack.length vc)).cell? ⟨w1.heap.size,1,none⟩=some (.slice va y.stack.length vc):=(Ab YB 1).trans rfl;have mm':(((w1.setCell ⟨w.heap.size+1+1+1,0,none⟩ (.slice ua un uc)).setCell ⟨w.heap.size+1+1+1,1,none⟩ (.slice va y.stack.length vc)).alloc (O25 ua un uc va y.stack.length vc)).cell? ⟨w.heap.size+1,6,none⟩=some (.int .i64 st):=(Ab MB 6).trans rfl;have hB8:=((hB1.setCell (p:=⟨w.heap.size+1+1+1,0,none⟩) (by simp;omega) (.slice ua un uc)).setCell (p:=⟨w.heap.size+1+1+1,1,none⟩) (by simp;omega) (.slice va y.stack.length vc));have hB9:=(hB8.alloc (by rw[hsz];exact hs1) (O25 ua un uc va y.stack.length vc)).drew;clear hsz YB MB;go_wp2;refine wp_region_held_drew (S:=(fun w'=>w'.cell? ⟨w1.heap.size,0,none⟩=some (.slice ua un uc)∧w'.cell? ⟨w1.heap.size,1,none⟩=some (.slice va y.stack.length vc)∧w'.cell? ⟨w.heap.size+1,6,none⟩=some (.int .i64 st))) (by kernel_rfl) ⟨y0,y1,mm⟩ (fun hHeld=>?_);refine wpAnyH_take (i:=0) (oi:=⟨_,_,_,_,_,_⟩) (v:=.agg #[.slice ua un uc,.slice va y.stack.length vc]) rfl (by kernel_rfl) (by kernel_rfl) (by kernel_rfl) (fun _ _ _ h=>h) (Or.inl ⟨by rfl,?_⟩) hHeld ?_
   ·intro w' hSw
    try dsimp only at hSw
    go_simp
   try simp only[QX]
   refine wpAnyH_take (i:=1) (oi:=⟨_,_,_,_,_,_⟩) (v:=.bool true) rfl (by kernel_rfl) (by kernel_rfl) (by kernel_rfl) (fun _ _ _ h=>h) (Or.inl ⟨by rfl,?_⟩) hHeld ?_
   ·intro w' hSw
    try dsimp only at hSw
    go_simp
   try simp only[QX]
   refine wpAnyH_take (i:=2) (oi:=⟨_,_,_,_,_,_⟩) (v:=.bool true) rfl (by kernel_rfl) (by kernel_rfl) (by kernel_rfl) (fun _ _ _ h=>h) (Or.inl ⟨by rfl,?_⟩) hHeld ?_
   ·intro w' hSw
    try dsimp only at hSw
    go_simp
   try simp only[QX]
   refine wpAnyH_take (i:=3) (oi:=⟨_,_,_,_,_,_⟩) (v:=.pointer (some ⟨w1.heap.size,1,none⟩)) rfl (by kernel_rfl) (by kernel_rfl) (by kernel_rfl) (fun _ _ _ h=>h) (Or.inl ⟨by rfl,?_⟩) hHeld ?_
   ·intro w' hSw
    try dsimp only at hSw
    go_simp
   try simp only[QX]
   refine wpAnyH_take (i:=4) (oi:=⟨_,_,_,_,_,_⟩) (v:=.slice va y.stack.length vc) rfl (by kernel_rfl) (by kernel_rfl) (by kernel_rfl) (fun _ _ _ h=>h) (Or.inl ⟨by rfl,?_⟩) hHeld ?_
   ·intro w' hSw
    try dsimp only at hSw
    go_simp
   try simp only[QX]
   refine wpAnyH_take (i:=5) (oi:=⟨_,_,_,_,_,_⟩) (v:=.int .i64 (y.stack.length:Int)) rfl (by kernel_rfl) (by kernel_rfl) (by kernel_rfl) (fun _ _ _ h=>h) (Or.inl ⟨by rfl,?_⟩) hHeld ?_
   ·intro w' hSw
    try dsimp only at hSw
    go_simp
   try simp only[QX]
   refine wpAnyH_take (i:=6) (oi:=⟨_,_,_,_,_,_⟩) (v:=.pointer (some ⟨w.heap.size+1,6,none⟩)) rfl (by kernel_rfl) (by kernel_rfl) (by kernel_rfl) (fun _ _ _ h=>h) (Or.inl ⟨by rfl,?_⟩) hHeld ?_
   ·intro w' hSw
    try dsimp only at hSw
    go_simp
   try simp only[QX]
   refine wpAnyH_take (i:=7) (oi:=⟨_,_,_,_,_,_⟩) (v:=.int .i64 st) rfl (by kernel_rfl) (by kernel_rfl) (by kernel_rfl) (fun _ _ _ h=>h) (Or.inl ⟨by rfl,?_⟩) hHeld ?_
   ·intro w' hSw
    try dsimp only at hSw
    go_simp
   try simp only[QX]
   refine wpAnyH_take (i:=8) (oi:=⟨_,_,_,_,_,_⟩) (v:=.bool false) rfl (by kernel_rfl) (by kernel_rfl) (by kernel_rfl) (fun _ _ _ h=>h) (Or.inl ⟨by rfl,?_⟩) hHeld ?_
   ·intro w' hSw
    try dsimp only at hSw
    go_simp
   try simp only[QX]
   refine wpAnyH_take (i:=9) (oi:=⟨_,_,_,_,_,_⟩) (v:=.bool false) rfl (by kernel_rfl) (by kernel_rfl) (by kernel_rfl) (fun _ _ _ h=>h) (Or.inl ⟨by rfl,?_⟩) hHeld ?_
   ·intro w' hSw
    try dsimp only at hSw
    go_simp
   try simp only[QX]
   refine wpAnyH_ready (rs:=[10]) (by kernel_rfl) (by simp) ?_;refine AllReadyH.cons (o:=⟨_,_,_,_,_,_⟩) rfl (fun K hK=>?_) AllReadyH.nil
   go_simp
   clear hHeld;refine hK.out _ _ ⟨y0',y1',mm'⟩ (fun hHeld=>?_);clear hK K
   try simp only[QX]
   refine wpAnyH_take (i:=11) (oi:=⟨_,_,_,_,_,_⟩) (v:=.bool false) rfl (by kernel_rfl) (by kernel_rfl) (by kernel_rfl) (fun _ _ _ h=>h) (Or.inl ⟨by rfl,?_⟩) hHeld ?_
   ·intro w' hSw
    try dsimp only at hSw
    go_simp
   try simp only[QX]
   refine wpAnyH_done (by kernel_rfl) ?_ _;go_wp2_with fail
   refine bodyPost_ret (v:=.tuple #[.agg #[.slice ua un uc,.slice va y.stack.length vc],.bool false]) (by simp[results,Tryz.results139,go_sem,z0,z1,lZ]) rfl ?_;rw[Aa HE];exact⟨⟨ua,un,uc,va,y.stack.length,vc⟩,rfl,fun z hz=>by simp at hz,hB9⟩
def Ac2 (T:List Int) (tk lv want:List (Int × Int)) (arg:Int→Int) (p op n:Int) (x:Zt):Option Zt :=
 if op=2 then (if (x.locals.getD n.toNat (0,0)).1=0 then none else some ⟨x.locals,x.stack++[x.locals.getD n.toNat (0,0)]⟩)
 else if op=3 then (if x.stack.length<1 then none else some ⟨x.locals.set n.toNat (x.stack.getD (x.stack.length-1) (0,0)),x.stack.take (x.stack.length-1)⟩)
 else if op=4 then (if x.stack.length<1 then none else some ⟨x.locals,x.stack.take (x.stack.length-1)⟩)
 else if op=5 then (if x.stack.length<1 then none else some ⟨x.locals,x.stack++x.stack.drop (x.stack.length-1)⟩)
 else if op=6 then (if x.stack.length<2 then none else some ⟨x.locals,x.stack.take (x.stack.length-2)++[x.stack.getD (x.stack.length-1) (0,0),x.stack.getD (x.stack.length-2) (0,0)]⟩)
 else if op=15 then some ⟨Zy (4,p) (0,0) x.locals,Zy (4,p) (0,0) x.stack++[(4,p)]⟩
 else if op=16 then Ado T want arg n x
 else if Abu T x.stack tk=false then none
 else some ⟨x.locals,x.stack.take (x.stack.length-tk.length)++lv⟩
theorem Lh (T:List Int) (F:List Rf.Fld) (ms:List Rd.Mth) (want:Int→List (Int × Int)) (arg:Int→Int) (res:Int × Int) (p op n:Int) (x:Zt) :
  Aa6 T F ms want arg res p op n x=Ac2 T (Aag F ms res op n) (Aal F ms op n) (want n) arg p op n x:=rfl
structure Aai where
 lo:List (Int × Int)
 st:List (Int × Int)
 br:Bool
def Zu (b:Aai):(Int × Int) × Aai :=
 if b.st.length=0 then ((0,0),⟨b.lo,b.st,true⟩) else (b.st.getD (b.st.length-1) (0,0),⟨b.lo,b.st.take (b.st.length-1),b.br⟩)
def Aeh (T:List Int) (t x:Int × Int) (b:Aai):Aai:=if Tr.fitsB T t.1 t.2 x.1 x.2=true then b else ⟨b.lo,b.st,true⟩
def Aa9 (T:List Int) (l:List (Int × Int)):Nat→Aai→Aai
 | 0,b=>b
 | i+1,b=>Aa9 T l i (Aeh T (Zu b).1 (l.getD i (0,0)) (Zu b).2)
def Abb (T:List Int) (l:List (Int × Int)) (b:Aai):Aai:=Aa9 T l l.length b
def Aar (hi:Int) (t:Int × Int) (b:Aai):Aai:=if hi≤(b.st.length:Int) then ⟨b.lo,b.st,true⟩ else ⟨b.lo,b.st++[t],b.br⟩
def Abd (hi:Int):List (Int × Int)→Aai→Aai
 | [],b=>b
 | t::r,b=>Abd hi r (Aar hi t b)
def Ael (hi n:Int) (b:Aai):Aai :=
 if n<0 then ⟨b.lo,b.st,true⟩ else if (b.lo.length:Int)≤n then ⟨b.lo,b.st,true⟩ else if (b.lo.getD n.toNat (0,0)).1=0 then ⟨b.lo,b.st,true⟩ else Aar hi (b.lo.getD n.toNat (0,0)) b
def Aee (n:Int) (b:Aai):Aai :=
 if n<0 then ⟨b.lo,(Zu b).2.st,true⟩ else if (b.lo.length:Int)≤n then ⟨b.lo,(Zu b).2.st,true⟩ else ⟨b.lo.set n.toNat (Zu b).1,(Zu b).2.st,(Zu b).2.br⟩
def Ac1 (old fresh:Int × Int) (b:Aai):Aai:=⟨Zy old fresh b.lo,Zy old fresh b.st,b.br⟩
def Ae6 (hi:Int) (b:Aai):Aai:=Aar hi (Zu (Zu b).2).1 (Aar hi (Zu b).1 (Zu (Zu b).2).2)
def Ae8 (hi:Int) (b:Aai):Aai:=Aar hi (Zu b).1 (Aar hi (Zu b).1 (Zu b).2)
def Ad0 (isNew:Int→Bool) (c:Int) (t:Int × Int) (b:Aai):Aai :=
 if t.1≠4 then ⟨b.lo,b.st,true⟩ else if isNew t.2=false then ⟨b.lo,b.st,true⟩ else Ac1 t (3,c) b
def Aex (T:List Int) (want:List (Int × Int)) (isNew:Int→Bool) (c:Int) (b:Aai):Aai :=
 Ad0 isNew c (Zu (Abb T want b)).1 (Zu (Abb T want b)).2
def Aax (b:Aai):Option Zt:=if b.br=true then none else some ⟨b.lo,b.st⟩
def Aet (T:List Int) (hi:Int) (tk lv want:List (Int × Int)) (isNew:Int→Bool) (p op n:Int) (b:Aai):Aai :=
 if op=2 then Ael hi n b else if op=3 then Aee n b else if op=4 then (Zu b).2 else if op=5 then Ae8 hi b else if op=6 then Ae6 hi b
 else if op=15 then Aar hi (4,p) (Ac1 (4,p) (0,0) b) else if op=16 then Aex T want isNew n b else Abd hi lv (Abb T tk b)
def Adc (T:List Int) (hi:Int) (tk lv want:List (Int × Int)) (isNew:Int→Bool) (p op n:Int) (x:Zt):Option Zt:=Aax (Aet T hi tk lv want isNew p op n ⟨x.locals,x.stack,false⟩)
def Aaj (T:List Int):List (Int × Int)→List (Int × Int)→Bool
 | _,[]=>true
 | [],_::_=>false
 | s::ss,t::ts=>Tr.fitsB T s.1 s.2 t.1 t.2&&Aaj T ss ts
theorem Fj {T:List Int} (hT:Tr.Ok T):∀ (a b:List (Int × Int)),(∀ t∈a,Tr.Arg T t.1 t.2)→(∀ t∈b,Tr.Arg T t.1 t.2)→Ab3 T a b=Aaj T a b
 | _,[],_,_=>by simp[Ab3,Aaj]
 | [],_::_,_,_=>by simp[Ab3,Aaj]
 | s::ss,t::ts,ha,hb=>by
  rw[Ab3,Aaj,Tr.rfits_eq hT (ha s (by simp)) (hb t (by simp)),Fj hT ss ts (fun x hx=>ha x (by simp[hx])) (fun x hx=>hb x (by simp[hx]))]
theorem Mc (T:List Int) (t x:Int × Int):∀ (a b:List (Int × Int)),a.length=b.length→Aaj T (a++[t]) (b++[x])=(Aaj T a b&&Tr.fitsB T t.1 t.2 x.1 x.2)
 | [],[],_=>by simp[Aaj]
 | [],_::_,h=>by simp at h
 | _::_,[],h=>by simp at h
 | s::ss,y::ys,h=>by
  simp only[List.cons_append,Aaj];rw[Mc T t x ss ys (by simpa using h),Bool.and_assoc]
theorem Qf (b:Aai):(Zu b).2.lo=b.lo:=by unfold Zu;split<;>rfl
theorem Nr (T:List Int) (t x:Int × Int) (b:Aai):(Aeh T t x b).lo=b.lo∧(Aeh T t x b).st=b.st∧(Aeh T t x b).br=(b.br || !Tr.fitsB T t.1 t.2 x.1 x.2):=by
 unfold Aeh;cases Tr.fitsB T t.1 t.2 x.1 x.2<;>simp
theorem Qr {α:Type} (l:List α) (d:α) (h:l.length≠0):l=l.take (l.length-1)++[l.getD (l.length-1) d]:=by
 have hk:l.length-1<l.length:=by omega
 have:=List.take_succ_eq_append_getElem hk;rw[show l.length-1+1=l.length by omega,List.take_length]at this;rw[List.getD_eq_getElem?_getD,List.getElem?_eq_getElem hk];exact this
theorem Mo (T:List Int) (l:List (Int × Int)):∀ (k:Nat) (b:Aai),b.br=true→(Aa9 T l k b).br=true
 | 0,b,h=>h
 | k+1,b,h=>by
  unfold Aa9;refine Mo T l k _ ?_;rw[(Nr _ _ _ _).2.2];have:(Zu b).2.br=true:=by unfold Zu;split<;>simp[h]
  rw[this];rfl
theorem Jd (T:List Int) (l:List (Int × Int)):∀ (k:Nat),k≤l.length→∀ (b:Aai),(Aa9 T l k b).lo=b.lo ∧
  (k≤b.st.length→(Aa9 T l k b).st=b.st.take (b.st.length-k)∧(Aa9 T l k b).br=(b.br || !Aaj T (b.st.drop (b.st.length-k)) (l.take k))) ∧
  (b.st.length<k→(Aa9 T l k b).br=true)
 | 0,_,b=>by
  refine⟨rfl,fun _=>⟨?_,?_⟩,fun h=>by omega⟩
  ·simp[Aa9]
  ·simp[Aa9,Aaj]
 | k+1,hk,b=>by
  have hkl:k<l.length:=by omega
  unfold Aa9;obtain⟨i1,i2,i3⟩:=Jd T l k (by omega) (Aeh T (Zu b).1 (l.getD k (0,0)) (Zu b).2);obtain⟨f1,f2,f3⟩:=Nr T (Zu b).1 (l.getD k (0,0)) (Zu b).2;rw[f1,Qf]at i1;rw[f2,f3]at i2;rw[f2]at i3;by_cases h0:b.st.length=0
  ·refine⟨i1,fun h=>by omega,fun _=>?_⟩;have e:Zu b=((0,0),⟨b.lo,b.st,true⟩):=by unfold Zu;rw[if_pos h0]
   refine Mo _ _ _ _ ?_;rw[f3,e];rfl
  ·have e:Zu b=(b.st.getD (b.st.length-1) (0,0),⟨b.lo,b.st.take (b.st.length-1),b.br⟩):=by unfold Zu;rw[if_neg h0]
   rw[e]at i1 i2 i3 ⊢;simp only at i1 i2 i3 ⊢;have hlen:(b.st.take (b.st.length-1)).length=b.st.length-1:=by simp
   rw[hlen]at i2 i3;refine⟨i1,fun h=>?_,fun h=>i3 (by omega)⟩;obtain⟨j1,j2⟩:=i2 (by omega);refine⟨?_,?_⟩
   ·rw[j1,List.take_take]
    congr 1;omega
   ·rw[j2];have hs:=Qr b.st (0,0) h0;have hd:b.st.drop (b.st.length-(k+1))=(b.st.take (b.st.length-1)).drop (b.st.length-1-k)++[b.st.getD (b.st.length-1) (0,0)]:=by
     conv=>lhs;rw[hs]
     rw[List.length_append,hlen,List.drop_append_of_le_length (by rw[hlen];simp)]
     congr 2
     simp only[List.length_singleton];omega
    have hl:l.take (k+1)=l.take k++[l.getD k (0,0)]:=by
     rw[List.take_succ_eq_append_getElem hkl,List.getD_eq_getElem?_getD,List.getElem?_eq_getElem hkl];rfl
    rw[hd,hl,Mc _ _ _ _ _ (by simp;omega)];cases b.br<;>cases Aaj T (List.drop (b.st.length-1-k) (List.take (b.st.length-1) b.st)) (List.take k l)<;>simp
theorem Ii {T:List Int} (hT:Tr.Ok T) (l:List (Int × Int)) (b:Aai) (hb:∀ t∈b.st,Tr.Arg T t.1 t.2) (hl:∀ t∈l,Tr.Arg T t.1 t.2) :
  (Abb T l b).lo=b.lo∧(Abu T b.st l=true→(Abb T l b).st=b.st.take (b.st.length-l.length)∧(Abb T l b).br=b.br)∧(Abu T b.st l=false→(Abb T l b).br=true):=by
 obtain⟨h1,h2,h3⟩:=Jd T l l.length (Nat.le_refl _) b;unfold Abb Abu;refine⟨h1,fun h=>?_,fun h=>?_⟩
 ·by_cases hn:b.st.length<l.length
  ·rw[if_pos hn]at h;cases h
  ·rw[if_neg hn,Fj hT _ _ (fun t ht=>hb t (List.mem_of_mem_drop ht)) hl]at h;obtain⟨g1,g2⟩:=h2 (by omega);refine⟨g1,?_⟩;rw[g2,List.take_length,h];simp
 ·by_cases hn:b.st.length<l.length
  ·exact h3 hn
  ·rw[if_neg hn,Fj hT _ _ (fun t ht=>hb t (List.mem_of_mem_drop ht)) hl]at h;obtain⟨g1,g2⟩:=h2 (by omega);rw[g2,List.take_length,h];simp
theorem Ea {hi:Int}{t:Int × Int}{b:Aai} (h:b.br=true):(Aar hi t b).br=true:=by unfold Aar;split<;>simp[h]
theorem Jo {hi:Int}:∀ {l:List (Int × Int)}{b:Aai},b.br=true→(Abd hi l b).br=true
 | [],_,h=>h
 | _::r,_,h=>Jo (l:=r) (Ea h)
theorem Qi {b:Aai} (h:b.br=true):(Zu b).2.br=true:=by unfold Zu;split<;>simp[h]
theorem Hh {b:Aai} (h:b.br=true):Aax b=none:=by unfold Aax;rw[if_pos h]
theorem Za {b:Aai} (h:b.br=false):Aax b=some ⟨b.lo,b.st⟩:=by unfold Aax;rw[h];rfl
theorem Bx (a b:Int × Int) (l:List (Int × Int)):(Zy a b l).length=l.length:=by simp[Zy]
theorem U8 {T:List Int} (hT:Tr.Ok T) (hi:Int) (tk lv want:List (Int × Int)) (isNew:Int→Bool) (arg:Int→Int) (p op n:Int) (x:Zt)
  (hs:∀ t∈x.stack,Tr.Arg T t.1 t.2) (htk:∀ t∈tk,Tr.Arg T t.1 t.2) (hwant:∀ t∈want,Tr.Arg T t.1 t.2) (hlv:lv.length≤1) (hhi:(x.stack.length:Int)≤hi)
  (hn:op=2∨op=3→0≤n∧n<(x.locals.length:Int)) (hnew:op=16→∀ t∈x.stack,t.1=4→(isNew t.2=true↔arg t.2=n)) :
  Adc T hi tk lv want isNew p op n x=Aa0 hi (Ac2 T tk lv want arg p op n x):=by
 unfold Adc Aet Ac2;by_cases h2:op=2
 ·rw[if_pos h2,if_pos h2];obtain⟨a1,a2⟩:=hn (.inl h2);unfold Ael;rw[if_neg (by omega),if_neg (by simpa using a2)];by_cases h0:(x.locals.getD n.toNat (0,0)).1=0
  ·rw[if_pos h0,if_pos h0];rfl
  ·rw[if_neg h0,if_neg h0];unfold Aar Aa0;by_cases hh:hi≤(x.stack.length:Int)
   ·rw[if_pos hh];simp[Aax];omega
   ·rw[if_neg hh];simp[Aax];omega
 rw[if_neg h2,if_neg h2];by_cases h3:op=3
 ·rw[if_pos h3,if_pos h3];obtain⟨a1,a2⟩:=hn (.inr h3);unfold Aee;rw[if_neg (by omega),if_neg (by simpa using a2)];unfold Zu;by_cases hz:x.stack.length=0
  ·rw[if_pos (show x.stack.length<1 by omega)];simp[hz,Aax,Aa0]
  ·rw[if_neg (show ¬ x.stack.length<1 by omega)];simp only[hz,if_false];simp[Aax,Aa0];omega
 rw[if_neg h3,if_neg h3];by_cases h4:op=4
 ·rw[if_pos h4,if_pos h4];unfold Zu;by_cases hz:x.stack.length=0
  ·rw[if_pos (show x.stack.length<1 by omega)];simp[hz,Aax,Aa0]
  ·rw[if_neg (show ¬ x.stack.length<1 by omega)];simp only[hz,if_false];simp[Aax,Aa0];omega
 rw[if_neg h4,if_neg h4];by_cases h5:op=5
 ·rw[if_pos h5,if_pos h5];unfold Ae8 Zu;by_cases hz:x.stack.length=0
  ·rw[if_pos (show x.stack.length<1 by omega)];rw[Hh (Ea (Ea (by simp[hz])))];rfl
  ·rw[if_neg (show ¬ x.stack.length<1 by omega)];simp only[hz,if_false];have hsn:=Qr x.stack (0,0) hz;have hdr:x.stack.drop (x.stack.length-1)=[x.stack.getD (x.stack.length-1) (0,0)]:=by
    conv=>lhs;rw[hsn]
    rw[List.drop_append_of_le_length (by simp)]
    simp
   rw[hdr];have e1:Aar hi (x.stack.getD (x.stack.length-1) (0,0)) ⟨x.locals,x.stack.take (x.stack.length-1),false⟩=⟨x.locals,x.stack,false⟩:=by
    unfold Aar;rw[if_neg (by simp;omega)];simp only[← hsn]
   rw[e1];unfold Aar Aa0;by_cases hh:hi≤(x.stack.length:Int)
   ·rw[if_pos hh];simp[Aax];omega
   ·rw[if_neg hh];simp[Aax];omega
 rw[if_neg h5,if_neg h5];by_cases h6:op=6
 ·rw[if_pos h6,if_pos h6];unfold Ae6;by_cases hz:x.stack.length=0
  ·rw[if_pos (show x.stack.length<2 by omega)];have:(Zu ⟨x.locals,x.stack,false⟩).2.br=true:=by unfold Zu;simp[hz]
   rw[Hh (Ea (Ea (Qi this)))];rfl
  ·have e1:Zu ⟨x.locals,x.stack,false⟩=(x.stack.getD (x.stack.length-1) (0,0),⟨x.locals,x.stack.take (x.stack.length-1),false⟩):=by unfold Zu;simp only[hz,if_false]
   rw[e1];simp only;by_cases hz1:x.stack.length<2
   ·rw[if_pos hz1];have:(Zu ⟨x.locals,x.stack.take (x.stack.length-1),false⟩).2.br=true:=by unfold Zu;rw[if_pos (by simp;omega)]
    rw[Hh (Ea (Ea this))];rfl
   ·rw[if_neg hz1];have e2:Zu ⟨x.locals,x.stack.take (x.stack.length-1),false⟩=(x.stack.getD (x.stack.length-2) (0,0),⟨x.locals,x.stack.take (x.stack.length-2),false⟩):=by
     unfold Zu;rw[if_neg (by simp;omega)];simp only[List.length_take,List.take_take,List.getD_eq_getElem?_getD,List.getElem?_take];rw[show min (x.stack.length-1) x.stack.length-1=x.stack.length-2 by omega,if_pos (by omega),show min (x.stack.length-2) (x.stack.length-1)=x.stack.length-2 by omega]
    rw[e2];simp only;unfold Aar;have l1:¬ hi≤((x.stack.take (x.stack.length-2)).length:Int):=by simp;omega
    rw[if_neg l1];have l2:¬ hi≤((x.stack.take (x.stack.length-2)++[x.stack.getD (x.stack.length-1) (0,0)]).length:Int):=by simp;omega
    simp only[l2,if_false];simp[Aax,Aa0];omega
 rw[if_neg h6,if_neg h6];by_cases h15:op=15
 ·rw[if_pos h15,if_pos h15];unfold Ac1 Aar Aa0;simp only[Bx];by_cases hh:hi≤(x.stack.length:Int)
  ·rw[if_pos hh];simp[Aax,Bx];omega
  ·rw[if_neg hh];simp[Aax,Bx];omega
 rw[if_neg h15,if_neg h15];by_cases h16:op=16
 ·rw[if_pos h16,if_pos h16];obtain⟨g1,g2,g3⟩:=Ii hT want ⟨x.locals,x.stack,false⟩ hs hwant;unfold Aex Ado;simp only at g1 g2 g3;cases htop:Abu T x.stack want with
  | false =>
   have:∀ t (b:Aai),b.br=true→Aax (Ad0 isNew n t b)=none:=by
    intro t b hb;unfold Ad0 Ac1
    split
    ·rfl
    ·split
     ·rfl
     ·exact Hh hb
   rw[this _ _ (Qi (g3 htop))];simp[Aa0]
  | true =>
   obtain⟨k1,k2⟩:=g2 htop;have hlw:want.length≤x.stack.length:=by
    unfold Abu at htop;by_cases h:x.stack.length<want.length
    ·rw[if_pos h]at htop;cases htop
    ·omega
   rw[if_neg (by simp)];generalize hb:Abb T want ⟨x.locals,x.stack,false⟩=b at *;obtain⟨blo,bst,bbr⟩:=b;simp only at g1 k1 k2;subst g1 k1 k2;by_cases hz:x.stack.length<want.length+1
   ·rw[if_pos hz];have e:Zu ⟨x.locals,x.stack.take (x.stack.length-want.length),false⟩=((0,0),⟨x.locals,x.stack.take (x.stack.length-want.length),true⟩):=by
     unfold Zu;rw[if_pos (by simp;omega)]
    rw[e];simp[Ad0,Aax,Aa0]
   ·rw[if_neg hz];have hix:x.stack.length-want.length-1<x.stack.length:=by omega
    have e:Zu ⟨x.locals,x.stack.take (x.stack.length-want.length),false⟩=(x.stack.getD (x.stack.length-want.length-1) (0,0),⟨x.locals,x.stack.take (x.stack.length-want.length-1),false⟩):=by
     unfold Zu;rw[if_neg (by simp;omega)];simp only[List.length_take,List.take_take,List.getD_eq_getElem?_getD,List.getElem?_take];rw[show min (x.stack.length-want.length) x.stack.length-1=x.stack.length-want.length-1 by omega,if_pos (by omega),show min (x.stack.length-want.length-1) (x.stack.length-want.length)=x.stack.length-want.length-1 by omega]
    rw[e];simp only;have hm:x.stack.getD (x.stack.length-want.length-1) (0,0)∈x.stack:=by
     rw[List.getD_eq_getElem?_getD,List.getElem?_eq_getElem hix];exact List.getElem_mem hix
    generalize x.stack.getD (x.stack.length-want.length-1) (0,0)=t at *;unfold Ad0;by_cases ht:t.1=4
    ·rw[if_neg (show ¬ t.1≠4 from fun g=>g ht),if_neg (show ¬ t.1≠4 from fun g=>g ht)];have hiff:=hnew h16 t hm ht;by_cases ha:arg t.2=n
     ·rw[hiff.2 ha,if_neg (by simp),if_neg (show ¬ arg t.2≠n from fun g=>g ha)];unfold Ac1 Aa0;simp[Aax,Bx];omega
     ·have:isNew t.2=false:=by
       cases h:isNew t.2
       ·rfl
       ·exact absurd (hiff.1 h) ha
      rw[if_pos this,if_pos ha];rfl
    ·rw[if_pos ht,if_pos ht];rfl
 rw[if_neg h16,if_neg h16];obtain⟨g1,g2,g3⟩:=Ii hT tk ⟨x.locals,x.stack,false⟩ hs htk;simp only at g1 g2 g3;cases htop:Abu T x.stack tk with
 | false=>rw[if_pos rfl,Hh (Jo (g3 htop))];rfl
 | true =>
  obtain⟨k1,k2⟩:=g2 htop;rw[if_neg (by simp)];generalize hb:Abb T tk ⟨x.locals,x.stack,false⟩=b at *;obtain⟨blo,bst,bbr⟩:=b;simp only at g1 k1 k2;subst g1 k1 k2
  match lv,hlv with
  | [],_ =>
   simp[Abd,Aax,Aa0];omega
  | [t],_ =>
   simp only[Abd,Aar];by_cases hh:hi≤((x.stack.take (x.stack.length-tk.length)).length:Int)
   ·rw[if_pos hh];simp at hh;simp[Aax,Aa0];omega
   ·rw[if_neg hh];simp at hh;simp[Aax,Aa0];omega
def Aaz (n:Int):List (List (Int × Int))→Int→Int→Int × Int
 | [],_,_=>(-1,0)
 | own::r,c,f=>if f≤n∧n-f<(own.length:Int) then (c,n-f) else Aaz n r (c+1) (f+(own.length:Int))
def Adv (fs:List (List (Int × Int))) (c:Int):List (Int × Int):=if c<0 then [] else fs.getD c.toNat []
def Aci (fs:List (List (Int × Int))) (n:Int):Int × (Int × Int) :=
 if (Aaz n fs 0 0).2<0 then (-1,(0,0)) else if ((Adv fs (Aaz n fs 0 0).1).length:Int)≤(Aaz n fs 0 0).2 then (-1,(0,0))
 else ((Aaz n fs 0 0).1,(Adv fs (Aaz n fs 0 0).1).getD (Aaz n fs 0 0).2.toNat (0,0))
def Aa3 (T:List Int) (fs:List (List (Int × Int))) (c:Int):Nat→List (Int × Int)
 | 0=>[]
 | d+1=>Aa3 T fs c d++(if Tr.within T c (d:Int)=true then fs.getD d [] else [])
def Aa2 (T:List Int) (fs:List (List (Int × Int))) (c:Int):List (Int × Int):=Aa3 T fs c fs.length
theorem Sg {T:List Int} (hT:Tr.Ok T) {a b:Int} (ha:0≤a) (hl:a<(T.length:Int)) (hb:0≤b):Tr.within T a b=Tr.rbel T a b:=by
 refine Bool.eq_iff_iff.2 ?_;rw[Tr.rbel_iff hT ha hl hb];unfold Tr.within Tr.At;simp only[Bool.or_eq_true,beq_iff_eq];exact⟨fun h=>h.imp Eq.symm id,fun h=>h.imp Eq.symm id⟩
theorem Vt {T:List Int} (hT:Tr.Ok T) {a b:Int} (ha:0≤a) (hl:a<(T.length:Int)) (hb:a<b):Tr.within T a b=false:=by
 unfold Tr.within;cases h:Tr.below T a b
 ·simp;omega
 ·have:=Tr.below_lt hT (by omega) hl h;omega
theorem Ji {T:List Int} (hT:Tr.Ok T) (cs:List Rd.Cls) {c:Int} (h0:0≤c) (hl:c<(T.length:Int)):∀ d:Nat,Aa3 T (cs.map Rd.Cls.fields) c d=Rf.allTo T cs c d
 | 0=>rfl
 | d+1=>by
  rw[Aa3,Rf.allTo,Ji hT cs h0 hl d,Sg hT h0 hl (by omega)]
  congr 2
  rw[List.getD_eq_getElem?_getD,List.getD_eq_getElem?_getD,List.getElem?_map];cases cs[d]? <;> rfl
theorem Jg {T:List Int} (hT:Tr.Ok T) (fs:List (List (Int × Int))) {c:Nat} (hl:(c:Int)<(T.length:Int)):∀ d:Nat,Aa3 T fs (c:Int) (c+1+d)=Aa3 T fs (c:Int) (c+1)
 | 0=>rfl
 | d+1=>by
  rw[← Nat.add_assoc,Aa3,Jg hT fs hl d,Vt hT (by omega) hl (by omega)]
  simp
theorem Pj {T:List Int} (hT:Tr.Ok T) (cs:List Rd.Cls) (hcs:cs.length=T.length) {c:Nat} (hl:c<T.length):Aa2 T (cs.map Rd.Cls.fields) (c:Int)=Rf.all T cs c:=by
 unfold Aa2 Rf.all;rw[← Ji hT cs (by omega) (by omega),List.length_map];have:=Jg hT (cs.map Rd.Cls.fields) (c:=c) (by omega) (cs.length-(c+1));rw[show c+1+(cs.length-(c+1))=cs.length by omega]at this;exact this
theorem Jy (c base:Int) (own:List (Int × Int)):∀ (k i:Nat),i<k→(Rf.ownTo c base own k).getD i ⟨0,0,(0,0)⟩=⟨c,base+(i:Int),own.getD i (0,0)⟩
 | 0,_,h=>by omega
 | k+1,i,h=>by
  rw[Rf.ownTo];by_cases hi:i<k
  ·rw[List.getD_eq_getElem?_getD,List.getElem?_append_left (by rw[Dp];exact hi),← List.getD_eq_getElem?_getD];exact Jy c base own k i hi
  ·have:i=k:=by omega
   subst this;rw[List.getD_eq_getElem?_getD,List.getElem?_append_right (by rw[Dp];omega),Dp]
   simp
def Rf.fieldsAt (T:List Int) (cs:List Rd.Cls):Nat→Nat→List Rf.Fld
 | _,0=>[]
 | c,j+1=>Rf.ownOf T cs c++Rf.fieldsAt T cs (c+1) j
theorem H7 (T:List Int) (cs:List Rd.Cls):∀ (j c:Nat),Rf.fieldsAt T cs c (j+1)=Rf.fieldsAt T cs c j++Rf.ownOf T cs (c+j)
 | 0,c=>by simp[Rf.fieldsAt]
 | j+1,c=>by
  rw[Rf.fieldsAt,H7 T cs j (c+1),Rf.fieldsAt,List.append_assoc,show c+1+j=c+(j+1) by omega]
theorem I9 (T:List Int) (cs:List Rd.Cls):∀ j:Nat,Rf.fieldsTo T cs j=Rf.fieldsAt T cs 7 j
 | 0=>rfl
 | j+1=>by rw[Rf.fieldsTo,I9 T cs j,H7]
theorem Ni (T:List Int) (cs:List Rd.Cls) (n:Nat):∀ (j c f:Nat),c+j=cs.length→f≤n→n-f<(Rf.fieldsAt T cs c j).length →
  ∃ q:Nat,c≤q∧q<cs.length∧∃ i:Nat,i<(cs.getD q ⟨0,[]⟩).fields.length∧Aaz (n:Int) ((cs.drop c).map Rd.Cls.fields) (c:Int) (f:Int)=((q:Int),(i:Int)) ∧
   ((Rf.fieldsAt T cs c j).getD (n-f) ⟨0,0,(0,0)⟩).owner=(q:Int)∧((Rf.fieldsAt T cs c j).getD (n-f) ⟨0,0,(0,0)⟩).t=(cs.getD q ⟨0,[]⟩).fields.getD i (0,0)
 | 0,c,f,hc,hf,h=>by simp[Rf.fieldsAt]at h
 | j+1,c,f,hc,hf,h=>by
  have hcl:c<cs.length:=by omega
  rw[List.drop_eq_getElem_cons hcl,List.map_cons,Aaz];have hg:cs.getD c ⟨0,[]⟩=cs[c]:=by rw[List.getD_eq_getElem?_getD,List.getElem?_eq_getElem hcl];rfl
  have hol:(Rf.ownOf T cs c).length=cs[c].fields.length:=by rw[Rf.ownOf,Dp,hg]
  rw[Rf.fieldsAt]at h ⊢;by_cases hin:n-f<cs[c].fields.length
  ·refine⟨c,Nat.le_refl _,hcl,n-f,by rw[hg];exact hin,?_,?_,?_⟩
   ·rw[if_pos (by omega)]
    congr 1;omega
   ·rw[List.getD_eq_getElem?_getD,List.getElem?_append_left (by rw[hol];exact hin),← List.getD_eq_getElem?_getD,Rf.ownOf,Jy _ _ _ _ _ (by rw[hg];exact hin)]
   ·rw[List.getD_eq_getElem?_getD,List.getElem?_append_left (by rw[hol];exact hin),← List.getD_eq_getElem?_getD,Rf.ownOf,Jy _ _ _ _ _ (by rw[hg];exact hin)]
  ·rw[if_neg (by omega)];obtain⟨q,h1,h2,i,h3,h4,h5,h6⟩:=Ni T cs n j (c+1) (f+cs[c].fields.length) (by omega) (by omega) (by rw[List.length_append,hol]at h;omega);refine⟨q,by omega,h2,i,h3,?_,?_,?_⟩
   ·rw[← h4];push_cast;rfl
   ·rw[List.getD_eq_getElem?_getD,List.getElem?_append_right (by rw[hol];omega),← List.getD_eq_getElem?_getD,hol,← h5];congr 2;omega
   ·rw[List.getD_eq_getElem?_getD,List.getElem?_append_right (by rw[hol];omega),← List.getD_eq_getElem?_getD,hol,← h6];congr 2;omega
theorem Mh (n:Int) (r:List (List (Int × Int))) (f:Int):∀ (k:Nat) (c:Int),Aaz n (List.replicate k []++r) c f=Aaz n r (c+(k:Int)) f
 | 0,c=>by simp
 | k+1,c=>by
  rw[List.replicate_succ,List.cons_append,Aaz,if_neg (by simp)];simp only[List.length_nil];rw[show f+((0:Nat):Int)=f by omega,Mh n r f k (c+1)]
  congr 1;omega
theorem Jz (T:List Int) (cs:List Rd.Cls) (h7:7≤cs.length) (hg:∀ i,i<7→(cs.getD i ⟨0,[]⟩).fields=[]) (n:Nat) (hn:n<(Rf.fieldsTo T cs (cs.length-7)).length) :
  Aci (cs.map Rd.Cls.fields) (n:Int)=(((Rf.fieldsTo T cs (cs.length-7)).getD n ⟨0,0,(0,0)⟩).owner,((Rf.fieldsTo T cs (cs.length-7)).getD n ⟨0,0,(0,0)⟩).t):=by
 rw[I9]at hn ⊢;obtain⟨q,h1,h2,i,h3,h4,h5,h6⟩:=Ni T cs n (cs.length-7) 7 0 (by omega) (by omega) (by simpa using hn);have e:cs.map Rd.Cls.fields=List.replicate 7 []++(cs.drop 7).map Rd.Cls.fields:=by
  conv=>lhs;rw[← List.take_append_drop 7 cs,List.map_append]
  congr 1
  apply List.ext_getElem
  ·simp;omega
  ·intro i hi hi';have hi2:i<7:=by simpa using hi'
   have:=hg i hi2;rw[List.getD_eq_getElem?_getD,List.getElem?_eq_getElem (by omega)]at this;rw[List.getElem_map,List.getElem_take,List.getElem_replicate]
   simpa using this
 have ho:Aaz (n:Int) (cs.map Rd.Cls.fields) 0 0=((q:Int),(i:Int)):=by
  rw[e,Mh];exact h4
 have hown:Adv (cs.map Rd.Cls.fields) (q:Int)=(cs.getD q ⟨0,[]⟩).fields:=by
  unfold Adv;rw[if_neg (by omega),List.getD_eq_getElem?_getD,List.getElem?_map,List.getD_eq_getElem?_getD,Int.toNat_natCast];cases cs[q]? <;> rfl
 unfold Aci;rw[ho];simp only;rw[if_neg (by omega),hown,if_neg (by omega),Int.toNat_natCast];simp only[Nat.sub_zero]at h5 h6;rw[h5,h6]
def Aaa (T:List Int) (isN:Int→Prop) (t:Int × Int):Prop:=Tr.Arg T t.1 t.2∧(t.1=4→isN t.2)
structure Ab6 (T:List Int) (lo:Nat) (hi:Int) (isN:Int→Prop) (x:Zt):Prop where
 lo:x.locals.length=lo
 hi:(x.stack.length:Int)≤hi
 tl:∀ t∈x.locals,Aaa T isN t
 ts:∀ t∈x.stack,Aaa T isN t
theorem Jr (T:List Int) (isN:Int→Prop):Aaa T isN (0,0):=⟨.inl ⟨rfl,rfl⟩,fun h=>absurd h (by decide)⟩
theorem Gs {T:List Int}{isN:Int→Prop}{a b:Int × Int}{l:List (Int × Int)} (hb:Aaa T isN b) (h:∀ t∈l,Aaa T isN t):∀ t∈Zy a b l,Aaa T isN t:=by
 intro t ht;unfold Zy at ht;obtain⟨y,hy,rfl⟩:=List.mem_map.1 ht
 split
 ·exact hb
 ·exact h y hy
theorem Ci {α:Type}{l:List α}{i:Nat}{d:α} (h:i<l.length):l.getD i d∈l:=by
 rw[List.getD_eq_getElem?_getD,List.getElem?_eq_getElem h];exact List.getElem_mem h
theorem Rx {α:Type}{l:List α}{i:Nat}{d t:α} (h:t∈l.set i d):t∈l∨t=d:=by
 rcases List.mem_or_eq_of_mem_set h with h|h
 ·exact .inl h
 ·exact .inr h
theorem V2 {T:List Int}{lo:Nat}{hi:Int}{isN:Int→Prop} (tk lv want:List (Int × Int)) (arg:Int→Int) (p op n:Int) (x y:Zt) (hx:Ab6 T lo hi isN x)
  (hlv:∀ t∈lv,Aaa T isN t) (hn:op=2→0≤n∧n<(lo:Int)) (hnew:op=15→Aaa T isN (4,p)) (hset:op=16→0≤n∧n<(T.length:Int))
  (h:Aa0 hi (Ac2 T tk lv want arg p op n x)=some y):Ab6 T lo hi isN y:=by
 unfold Aa0 at h;cases hm:Ac2 T tk lv want arg p op n x with
 | none=>rw[hm]at h;cases h
 | some z =>
  rw[hm]at h;simp only[Option.bind_some]at h;by_cases hz:(z.stack.length:Int)≤hi
  ·rw[if_pos hz]at h;obtain rfl:=Option.some.inj h
   suffices hh:z.locals.length=lo∧(∀ t∈z.locals,Aaa T isN t)∧(∀ t∈z.stack,Aaa T isN t) from ⟨hh.1,hz,hh.2.1,hh.2.2⟩
   have htk:∀ k,∀ t∈x.stack.take k,Aaa T isN t:=fun k t ht=>hx.ts t (List.mem_of_mem_take ht);unfold Ac2 at hm;by_cases h2:op=2
   ·rw[if_pos h2]at hm
    split at hm
    ·cases hm
    ·obtain rfl:=Option.some.inj hm;refine⟨hx.lo,hx.tl,fun t ht=>?_⟩;rcases List.mem_append.1 ht with ht|ht
     ·exact hx.ts t ht
     ·obtain rfl:=List.mem_singleton.1 ht;have:=hn h2;exact hx.tl _ (Ci (by have:=hx.lo;omega))
   rw[if_neg h2]at hm;by_cases h3:op=3
   ·rw[if_pos h3]at hm
    split at hm
    ·cases hm
    ·rename_i hs;obtain rfl:=Option.some.inj hm;refine⟨by simpa using hx.lo,fun t ht=>?_,fun t ht=>htk _ t ht⟩;rcases Rx ht with ht | rfl
     ·exact hx.tl t ht
     ·exact hx.ts _ (Ci (by omega))
   rw[if_neg h3]at hm;by_cases h4:op=4
   ·rw[if_pos h4]at hm
    split at hm
    ·cases hm
    ·obtain rfl:=Option.some.inj hm;exact⟨hx.lo,hx.tl,fun t ht=>htk _ t ht⟩
   rw[if_neg h4]at hm;by_cases h5:op=5
   ·rw[if_pos h5]at hm
    split at hm
    ·cases hm
    ·obtain rfl:=Option.some.inj hm;refine⟨hx.lo,hx.tl,fun t ht=>?_⟩;rcases List.mem_append.1 ht with ht|ht
     ·exact hx.ts t ht
     ·exact hx.ts t (List.mem_of_mem_drop ht)
   rw[if_neg h5]at hm;by_cases h6:op=6
   ·rw[if_pos h6]at hm
    split at hm
    ·cases hm
    ·rename_i hs;obtain rfl:=Option.some.inj hm;refine⟨hx.lo,hx.tl,fun t ht=>?_⟩;rcases List.mem_append.1 ht with ht | ht
     ·exact htk _ t ht
     ·simp only[List.mem_cons,List.not_mem_nil,or_false]at ht;rcases ht with rfl | rfl
      ·exact hx.ts _ (Ci (by omega))
      ·exact hx.ts _ (Ci (by omega))
   rw[if_neg h6]at hm;by_cases h15:op=15
   ·rw[if_pos h15]at hm;obtain rfl:=Option.some.inj hm;refine⟨by rw[Bx];exact hx.lo,Gs (Jr T isN) hx.tl,fun t ht=>?_⟩;rcases List.mem_append.1 ht with ht | ht
    ·exact Gs (Jr T isN) hx.ts t ht
    ·obtain rfl:=List.mem_singleton.1 ht;exact hnew h15
   rw[if_neg h15]at hm;by_cases h16:op=16
   ·rw[if_pos h16]at hm;have h3n:Aaa T isN (3,n):=⟨.inr (.inr (.inr (.inl ⟨rfl,hset h16⟩))),fun h=>absurd h (by simp)⟩;unfold Ado at hm
    split at hm
    ·cases hm
    ·split at hm
     ·cases hm
     ·split at hm
      ·cases hm
      ·split at hm
       ·cases hm
       ·obtain rfl:=Option.some.inj hm;exact⟨by rw[Bx];exact hx.lo,Gs h3n hx.tl,Gs h3n (htk _)⟩
   rw[if_neg h16]at hm
   split at hm
   ·cases hm
   ·obtain rfl:=Option.some.inj hm;refine⟨hx.lo,hx.tl,fun t ht=>?_⟩;rcases List.mem_append.1 ht with ht|ht
    ·exact htk _ t ht
    ·exact hlv t ht
  ·rw[if_neg hz]at h;cases h
theorem As {w:World}{g i j:Nat}{u:Value} (h:j≠g):(w.setCell ⟨g,i,none⟩ u).heap[j]?=w.heap[j]?:=Below.heap_setCell _ _ _ _ (by simpa using h)
theorem Es {w:World}{z:Nat}{x y:Value}{ty:TypeId} (h:w.heap[z]?=some (.cells #[x,y] ty (0,0))) (s t:Value):((w.setCell ⟨z,0,none⟩ s).setCell ⟨z,1,none⟩ t).heap[z]?=some (.cells #[s,t] ty (0,0)):=by
 have h1:(w.setCell ⟨z,0,none⟩ s).heap[z]?=some (.cells #[s,y] ty (0,0)):=by rw[Ai h];rfl
 rw[Ai h1];rfl
theorem It {w:World}{z j:Nat}{s t:Value} (h:j≠z):((w.setCell ⟨z,0,none⟩ s).setCell ⟨z,1,none⟩ t).heap[j]?=w.heap[j]?:=(As h).trans (As h)
theorem FrV.is.set2 {v:FrV}{x:Zt}{w:World}{z:Nat}{a1 a2:Option Addr}{n1 c1 n2 c2:Nat}{ty:TypeId} (h:v.is x w) (hz:w.heap[z]?=some (.cells #[.slice a1 n1 c1,.slice a2 n2 c2] ty (0,0))) (s t:Value):v.is x ((w.setCell ⟨z,0,none⟩ s).setCell ⟨z,1,none⟩ t):=⟨h.lo.set_frame hz s t,h.st.set_frame hz s t,h.hl,h.hs⟩
end Go.Proofs.YtcefiamkoincoaaGreat
