/-
  The walk over the document's look.
-/
import Derived.Deep.Cut
import Derived.Deep.RegionHeld3
import Derived.Deep.CutRange
import Derived.Maps.AppendAt
import Derived.Test.YteffpdofcgbokaaGreatPk12

namespace Go.Proofs.YteffpdofcgbokaaGreat
open Go.RowKit

/-- P11, 1 to 4, for one instruction; H: what its handlers say, R: its rule -/
def Ck.look (T:List Int) (mp:Int→Option Ck.Fr) (H:Int) (R:Option Ck.Fr) (op n nxt len:Int):Int :=
 if H ≠ 0 then H else if R.isSome=false then 10
 else if Ck.jumps op=true∧(mp n).isSome=false then 8
 else if Ck.jumps op=true∧Ck.frameFits T (Ck.orNone R) (Ck.orNone (mp n))=false then 9
 else if Ck.goes op=false then 0 else if len≤nxt then 11
 else if (mp nxt).isSome=true∧Ck.frameFits T (Ck.orNone R) (Ck.orNone (mp nxt))=false then 9 else 0

theorem heap_set_ne {w:World}{g i j:Nat}{u:Value} (h:j ≠ g):(w.setCell ⟨g,i,none⟩ u).heap[j]?=w.heap[j]?:=Below.heap_setCell _ _ _ _ (by simpa using h)
theorem set2_blk {w:World}{z:Nat}{x y:Value}{ty:TypeId} (h:w.heap[z]?=some (.cells #[x,y] ty (0,0))) (s t:Value):((w.setCell ⟨z,0,none⟩ s).setCell ⟨z,1,none⟩ t).heap[z]?=some (.cells #[s,t] ty (0,0)):=by
 have h1:(w.setCell ⟨z,0,none⟩ s).heap[z]?=some (.cells #[s,y] ty (0,0)):=by rw [set_blk h]; rfl
 rw [set_blk h1]; rfl
theorem set2_ne {w:World}{z j:Nat}{s t:Value} (h:j ≠ z):((w.setCell ⟨z,0,none⟩ s).setCell ⟨z,1,none⟩ t).heap[j]?=w.heap[j]?:=(heap_set_ne h).trans (heap_set_ne h)
theorem FrV.is.set2 {v:FrV}{x:Ck.Fr}{w:World}{z:Nat}{a1 a2:Option Addr}{n1 c1 n2 c2:Nat}{ty:TypeId} (h:v.is x w) (hz:w.heap[z]?=some (.cells #[.slice a1 n1 c1,.slice a2 n2 c2] ty (0,0))) (s t:Value):v.is x ((w.setCell ⟨z,0,none⟩ s).setCell ⟨z,1,none⟩ t):=⟨h.lo.set_frame hz s t,h.st.set_frame hz s t,h.hl,h.hs⟩
theorem lkcells {w:World}{k:Nat}{cl nm r1 r2 lo st mAt fin:Int}{pa ha ma:Option Addr}{pl pc hl hc ml mc:Nat}{code:ByteArray} (h:w.heap[k]?=some (.cells #[.int .i64 cl,.int .i64 nm,.slice pa pl pc,.int .i64 r1,.int .i64 r2,.int .i64 lo,.int .i64 st,.string code,.slice ha hl hc,.slice ma ml mc,.int .i64 mAt,.int .i64 fin] 52 (0,0))) :
  w.cell? ⟨k,0,none⟩=some (.int .i64 cl)∧w.cell? ⟨k,1,none⟩=some (.int .i64 nm)∧w.cell? ⟨k,2,none⟩=some (.slice pa pl pc)∧w.cell? ⟨k,3,none⟩=some (.int .i64 r1)∧w.cell? ⟨k,4,none⟩=some (.int .i64 r2)∧w.cell? ⟨k,5,none⟩=some (.int .i64 lo)∧w.cell? ⟨k,6,none⟩=some (.int .i64 st)∧w.cell? ⟨k,7,none⟩=some (.string code)∧w.cell? ⟨k,8,none⟩=some (.slice ha hl hc)∧w.cell? ⟨k,9,none⟩=some (.slice ma ml mc)∧w.cell? ⟨k,10,none⟩=some (.int .i64 mAt)∧w.cell? ⟨k,11,none⟩=some (.int .i64 fin):=by
 refine ⟨?_,?_,?_,?_,?_,?_,?_,?_,?_,?_,?_,?_⟩
 all_goals (rw [blk_cell h]; rfl)

set_option maxRecDepth 100000 in
set_option maxHeartbeats 40000000 in
theorem rlook_any (f:RFv) (T:List Int) (m:RMV) (p:Nat) (mp:Int→Option Ck.Fr) (H:Int) (R:Option Ck.Fr) (v:FrV) (w:World) (hF:f.fitsAs T w) (hp:p < m.code.size) (hs:m.code.size≤100000)
  (hH:∀ w',Below w.heap.size w w'→Calls Tryz.prog 129 #[f.val,m.val,.int .i64 (p:Int),v.val] w' fun e w''=>e=.returned (.int .i64 H)∧Below w'.heap.size w' w'')
  (hR:∀ w',Below w.heap.size w w'→Calls Tryz.prog 127 #[f.val,m.val,.int .i64 (p:Int),v.val] w' fun e w''=>∃ u:FrV,e=.returned (.tuple #[u.val,.bool R.isSome])∧(∀ y,R=some y→u.is y w'')∧Below w'.heap.size w' w'')
  (hMp:∀ q w',Below w.heap.size w w'→Calls Tryz.prog 83 #[m.val,.int .i64 q] w' fun e w''=>∃ u:FrV,e=.returned (.tuple #[u.val,.bool (mp q).isSome])∧u.is (Ck.orNone (mp q)) w''∧Below w'.heap.size w' w'') :
  Calls Tryz.prog 87 #[f.val,m.val,.int .i64 (p:Int),v.val] w fun e w' =>
   e=.returned (.int .i64 (Ck.look T mp H R ((nums m.code).getD p 0) (Rf.at' m.code.data.toList ((p:Int)+1)) ((p+Cd.wd ((nums m.code).getD p 0):Nat):Int) (m.code.size:Int)))∧Below w.heap.size w w':=by
 have hFF:=fun (u u':FrV) (y y':Ck.Fr) w' (h:Below w.heap.size w w') hu hu'=>rframeFits_any f T u u' y y' w' (hF.below h) hu hu'
 have hAr:=fun w'=>rArg_any m p w' hp hs
 have hNx:=fun w'=>rNext_any m p w' hp hs
 rw [nums_at _ _ hp] at hNx ⊢
 have hJ:=fun w'=>rjumps_any (m.code[p].toNat:Int) w'
 have hG:=fun w'=>rgoes_any (m.code[p].toNat:Int) w'
 have hwb:IntKind.i64.wrap ((m.code[p].toNat:Nat):Int)=((m.code[p].toNat:Nat):Int):=wrap_in _ (by omega) (by have:=m.code[p].toNat_lt; omega)
 generalize hr:Ck.look T mp H R (m.code[p].toNat:Int) (Rf.at' m.code.data.toList ((p:Int)+1)) ((p+Cd.wd (m.code[p].toNat:Int):Nat):Int) (m.code.size:Int)=A
 unfold Ck.look at hr
 generalize Rf.at' m.code.data.toList ((p:Int)+1)=arg at *
 generalize hnx:p+Cd.wd (m.code[p].toNat:Int)=nxt at *
 have hnx2:nxt≤200000:=by have:=Cd.wd_bd (m.code[p].toNat:Int); omega
 obtain ⟨fa1,fl,fc1,fa2,fm,fc2⟩:=f
 obtain ⟨cl,nm,pa,pl,pc,r1,r2,lo,st,code,ha,hl,hc,ma,ml,mc,mAt,fin⟩:=m
 obtain ⟨la,ln,lc,sa,sn,sc⟩:=v
 simp only [RMV.val,RFv.val,FrV.val] at hp hs hH hR hMp hFF hAr hNx hJ hG hwb hr hnx ⊢
 have hp':(p:Int) < (code.size:Int):=by omega
 generalize Ck.jumps (code[p].toNat:Int)=J at *
 generalize Ck.goes (code[p].toNat:Int)=G at *
 have hB0:=below3 w (.cells #[.slice fa1 fl fc1,.slice fa2 fm fc2] 28) (.cells #[.int .i64 cl,.int .i64 nm,.slice pa pl pc,.int .i64 r1,.int .i64 r2,.int .i64 lo,.int .i64 st,.string code,.slice ha hl hc,.slice ma ml mc,.int .i64 mAt,.int .i64 fin] 52) (.cells #[.slice la ln lc,.slice sa sn sc] 75)
 obtain ⟨F0,M0,X0⟩:=blks3 w (.cells #[.slice fa1 fl fc1,.slice fa2 fm fc2] 28) (.cells #[.int .i64 cl,.int .i64 nm,.slice pa pl pc,.int .i64 r1,.int .i64 r2,.int .i64 lo,.int .i64 st,.string code,.slice ha hl hc,.slice ma ml mc,.int .i64 mAt,.int .i64 fin] 52) (.cells #[.slice la ln lc,.slice sa sn sc] 75)
 have HH:=hide hH
 have HR:=hide hR
 have HMP:=hide hMp
 have HFF:=hide hFF
 have HAR:=hide hAr
 have HNX:=hide hNx
 have HJ:=hide hJ
 have HG:=hide hG
 clear hH hR hMp hFF hAr hNx hJ hG hF hnx
 by_cases h0:H=0
 ·subst h0
  rw [if_neg (by simp)] at hr
  cases R with
  | none =>
   rw [if_pos (by simp)] at hr
   have HA:=hide hr
   clear hr
   go_enter Tryz.func87,Tryz.ntmps87
   go_wp2_with fail
   refine (unhide HH _ hB0).mono ?_
   rintro e w1 ⟨rfl,hb1⟩
   have hB1:=hB0.trans (hb1.mono hB0.size)
   have hs1:=hB1.size
   have F1:=stay hb1 F0
   have M1:=stay hb1 M0
   have X1:=stay hb1 X0
   clear hb1 F0 M0 X0
   have f0:=blk_cell F1 0
   have f1:=blk_cell F1 1
   simp at f0 f1
   have m0:=blk_cell M1 0
   have m1:=blk_cell M1 1
   have m2:=blk_cell M1 2
   have m3:=blk_cell M1 3
   have m4:=blk_cell M1 4
   have m5:=blk_cell M1 5
   have m6:=blk_cell M1 6
   have m7:=blk_cell M1 7
   have m8:=blk_cell M1 8
   have m9:=blk_cell M1 9
   have m10:=blk_cell M1 10
   have m11:=blk_cell M1 11
   simp at m0 m1 m2 m3 m4 m5 m6 m7 m8 m9 m10 m11
   have x0:=blk_cell X1 0
   have x1:=blk_cell X1 1
   simp at x0 x1
   go_wp2_with fail
   refine (unhide HR _ hB1).mono ?_
   rintro e w2 ⟨u,rfl,-,hb2⟩
   obtain ⟨ua,un,uc,va,vn,vc⟩:=u
   have hB2:=hB1.trans (hb2.mono hB1.size)
   have hs2:=hB2.size
   go_wp2
   go_ret
   exact ⟨by rw [← unhide HA]; rfl,hB2.alloc hs2 _⟩
  | some y =>
   rw [if_neg (by simp)] at hr
   rw [show Ck.orNone (some y)=y from rfl] at hr
   have HA:=hide hr
   clear hr
   go_enter Tryz.func87,Tryz.ntmps87
   go_wp2_with fail
   refine (unhide HH _ hB0).mono ?_
   rintro e w1 ⟨rfl,hb1⟩
   have hB1:=hB0.trans (hb1.mono hB0.size)
   have hs1:=hB1.size
   have F1:=stay hb1 F0
   have M1:=stay hb1 M0
   have X1:=stay hb1 X0
   clear hb1 F0 M0 X0
   have f0:=blk_cell F1 0
   have f1:=blk_cell F1 1
   simp at f0 f1
   have m0:=blk_cell M1 0
   have m1:=blk_cell M1 1
   have m2:=blk_cell M1 2
   have m3:=blk_cell M1 3
   have m4:=blk_cell M1 4
   have m5:=blk_cell M1 5
   have m6:=blk_cell M1 6
   have m7:=blk_cell M1 7
   have m8:=blk_cell M1 8
   have m9:=blk_cell M1 9
   have m10:=blk_cell M1 10
   have m11:=blk_cell M1 11
   simp at m0 m1 m2 m3 m4 m5 m6 m7 m8 m9 m10 m11
   have x0:=blk_cell X1 0
   have x1:=blk_cell X1 1
   simp at x0 x1
   go_wp2_with fail
   refine (unhide HR _ hB1).mono ?_
   rintro e w2 ⟨u,rfl,huI,hb2⟩
   have hu:=huI y rfl
   clear huI
   obtain ⟨ua,un,uc,va,vn,vc⟩:=u
   have hB2:=hB1.trans (hb2.mono hB1.size)
   have hs2:=hB2.size
   have F2:=stay hb2 F1
   have M2:=stay hb2 M1
   have hB3:=hB2.alloc hs2 (.cells #[.slice ua un uc,.slice va vn vc] 75)
   have hu3:=hu.below ((Below.refl _ _).alloc (Nat.le_refl _) (.cells #[.slice ua un uc,.slice va vn vc] 75))
   clear hb2 F1 M1 X1 f0 f1 m0 m1 m2 m3 m4 m5 m6 m7 m8 m9 m10 m11 x0 x1 hu hB2 hB1
   have m7:=blk_cell M2 7
   have lM:=lt_of_block M2
   simp at m7
   go_wp2_with fail
   refine (unhide HJ _).mono ?_
   rintro e w4 ⟨rfl,hb4⟩
   have hB4:=hB3.trans (hb4.mono hB3.size)
   have F4:=stay hb4 (stay1 F2 (.cells #[.slice ua un uc,.slice va vn vc] 75))
   have M4:=stay hb4 (stay1 M2 (.cells #[.slice ua un uc,.slice va vn vc] 75))
   have Y4:=stay hb4 (alloc_blk w2 (.cells #[.slice ua un uc,.slice va vn vc] 75))
   have hu4:=hu3.below hb4
   clear hb4 F2 M2 m7 lM hu3 hB3
   go_upto_if 45 with fail
   go_cut [11,14,15] from 46 (fun _ _ _ wx=>Below w.heap.size w wx∧wx.heap[w.heap.size]?=some (.cells #[.slice fa1 fl fc1,.slice fa2 fm fc2] 28 (0,0))∧wx.heap[w.heap.size+1]?=some (.cells #[.int .i64 cl,.int .i64 nm,.slice pa pl pc,.int .i64 r1,.int .i64 r2,.int .i64 lo,.int .i64 st,.string code,.slice ha hl hc,.slice ma ml mc,.int .i64 mAt,.int .i64 fin] 52 (0,0))∧wx.heap[w2.heap.size]?=some (.cells #[.slice ua un uc,.slice va vn vc] 75 (0,0)) ∧
    FrV.is ⟨ua,un,uc,va,vn,vc⟩ y wx∧Hid ((if G=false then 0 else if (code.size:Int)≤(nxt:Int) then 11 else if (mp (nxt:Int)).isSome=true∧Ck.frameFits T y (Ck.orNone (mp (nxt:Int)))=false then 9 else 0)=A))
   case first =>
    have hr:=unhide HA
    cases J with
    | false =>
     have HA2:Hid ((if G=false then 0 else if (code.size:Int)≤(nxt:Int) then 11 else if (mp (nxt:Int)).isSome=true∧Ck.frameFits T y (Ck.orNone (mp (nxt:Int)))=false then 9 else 0)=A):=by
      unfold Hid
      rw [← hr,if_neg (show ¬ (false=true∧_) by simp),if_neg (show ¬ (false=true∧_) by simp)]
     clear hr HA
     go_wp2
     go_meet
     case rel=>exact ⟨hB4,F4,M4,Y4,hu4,HA2⟩
    | true =>
     have lM4:=lt_of_block M4
     have lY4:=lt_of_block Y4
     have hs4:=hB4.size
     go_upto_region 10 with fail
     go_cut [14,15] from 46 (fun s14 s15 wx=>∃ (zb:Nat) (u2:FrV),s14=.pointer (some ⟨zb,0,none⟩)∧s15=.bool (mp arg).isSome∧wx.heap[zb]?=some (.cells #[.slice u2.la u2.ln u2.lc,.slice u2.sa u2.sn u2.sc] 75 (0,0))∧u2.is (Ck.orNone (mp arg)) wx ∧
      Below w.heap.size w wx∧wx.heap[w.heap.size]?=some (.cells #[.slice fa1 fl fc1,.slice fa2 fm fc2] 28 (0,0))∧wx.heap[w.heap.size+1]?=some (.cells #[.int .i64 cl,.int .i64 nm,.slice pa pl pc,.int .i64 r1,.int .i64 r2,.int .i64 lo,.int .i64 st,.string code,.slice ha hl hc,.slice ma ml mc,.int .i64 mAt,.int .i64 fin] 52 (0,0))∧wx.heap[w2.heap.size]?=some (.cells #[.slice ua un uc,.slice va vn vc] 75 (0,0))∧FrV.is ⟨ua,un,uc,va,vn,vc⟩ y wx)
     case first =>
      go_wp2
      go_region_held3 (fun w'=>w'.cell? ⟨w.heap.size+1,0,none⟩=some (.int .i64 cl)∧w'.cell? ⟨w.heap.size+1,1,none⟩=some (.int .i64 nm)∧w'.cell? ⟨w.heap.size+1,2,none⟩=some (.slice pa pl pc)∧w'.cell? ⟨w.heap.size+1,3,none⟩=some (.int .i64 r1)∧w'.cell? ⟨w.heap.size+1,4,none⟩=some (.int .i64 r2)∧w'.cell? ⟨w.heap.size+1,5,none⟩=some (.int .i64 lo)∧w'.cell? ⟨w.heap.size+1,6,none⟩=some (.int .i64 st)∧w'.cell? ⟨w.heap.size+1,7,none⟩=some (.string code)∧w'.cell? ⟨w.heap.size+1,8,none⟩=some (.slice ha hl hc)∧w'.cell? ⟨w.heap.size+1,9,none⟩=some (.slice ma ml mc)∧w'.cell? ⟨w.heap.size+1,10,none⟩=some (.int .i64 mAt)∧w'.cell? ⟨w.heap.size+1,11,none⟩=some (.int .i64 fin))
       (exact lkcells (by repeat (first | exact M4 | refine stay1 ?_ _ | refine stay hb5 ?_ | refine stay hb6 ?_ | refine (heap_set_ne (by (try simp) <;> omega)).trans ?_)))
       (first | (go_at_call 50; refine (unhide HAR _).mono ?_; rintro e w5 ⟨rfl,hb5⟩; have hs5:w4.heap.size≤w5.heap.size:=Nat.le_trans (by first | exact Nat.le_refl _ | (simp; done)) hb5.size; try have Z5:=stay hb5 (alloc_blk _ _)) | (go_at_call 83; refine (unhide HMP arg _ (by first | exact hB4.drew.trans (hb5.mono hs4) | exact (hB4.drew.trans (hb5.mono hs4)).alloc (by omega) _ | exact (hB4.drew.alloc hs4 _).trans (hb5.mono (by simp; omega)))).mono ?_; rintro e w6 ⟨u2,rfl,hu6,hb6⟩; have hs6:w4.heap.size≤w6.heap.size:=Nat.le_trans (by first | exact Nat.le_refl _ | exact hs5 | (simp; omega)) hb6.size; obtain ⟨ua2,un2,uc2,va2,vn2,vc2⟩:=u2; (first | have Z6:=stay hb6 Z5 | have Z6:=stay hb6 (alloc_blk _ _) | skip); try (have z0':=blk_cell Z6 0; have z1':=blk_cell Z6 1; have q0':=blk_free Z6 0; have q1':=blk_free Z6 1; simp at z0' z1')))
      all_goals
       go_wp2
       go_meet
      ·have hB5:=hB4.drew.trans (hb5.mono hs4)
       have hB6:=hB5.trans (hb6.mono (by omega))
       exact ⟨w6.heap.size,⟨ua2,un2,uc2,va2,vn2,vc2⟩,rfl,rfl,alloc_blk w6 _,hu6.below ((Below.refl _ _).alloc (Nat.le_refl _) _),hB6.alloc (by omega) _,stay1 (stay hb6 (stay hb5 F4)) _,stay1 (stay hb6 (stay hb5 M4)) _,stay1 (stay hb6 (stay hb5 Y4)) _,(((hu4.below (Below.refl _ _).drew).below hb5).below hb6).below ((Below.refl _ _).alloc (Nat.le_refl _) _)⟩
      ·have hB5:=hB4.drew.trans (hb5.mono hs4)
       have hB6:=(hB5.alloc (by omega) _).trans (hb6.mono (by simp; omega))
       have ll:=lt_of_block (stay hb5 Y4)
       have lm:=lt_of_block (stay hb5 M4)
       exact ⟨w5.heap.size,⟨ua2,un2,uc2,va2,vn2,vc2⟩,rfl,rfl,set2_blk Z6 _ _,hu6.set2 Z6 _ _,(hB6.setCell (by simp; omega) _).setCell (by simp; omega) _,(set2_ne (by omega)).trans (stay hb6 (stay1 (stay hb5 F4) _)),(set2_ne (by omega)).trans (stay hb6 (stay1 (stay hb5 M4) _)),(set2_ne (by omega)).trans (stay hb6 (stay1 (stay hb5 Y4) _)),
        ((((hu4.below (Below.refl _ _).drew).below hb5).below ((Below.refl _ _).alloc (Nat.le_refl _) _)).below hb6).set2 Z6 _ _⟩
      ·have hB5:=(hB4.alloc hs4 (.cells #[.slice none 0 0,.slice none 0 0] 75)).drew.trans (hb5.mono (by simp; omega))
       have hB6:=hB5.trans (hb6.mono (by omega))
       exact ⟨w4.heap.size,⟨ua2,un2,uc2,va2,vn2,vc2⟩,rfl,rfl,set2_blk Z6 _ _,hu6.set2 Z6 _ _,(hB6.setCell (by simp; omega) _).setCell (by simp; omega) _,(set2_ne (by omega)).trans (stay hb6 (stay hb5 (stay1 F4 _))),(set2_ne (by omega)).trans (stay hb6 (stay hb5 (stay1 M4 _))),(set2_ne (by omega)).trans (stay hb6 (stay hb5 (stay1 Y4 _))),
        ((((hu4.below ((Below.refl _ _).alloc (Nat.le_refl _) _)).below (Below.refl _ _).drew).below hb5).below hb6).set2 Z6 _ _⟩
     case rest =>
      obtain ⟨zb,u2,rfl,rfl,Z7,hu7,hB7,F7,M7,Y7,hy7⟩:=hcut
      obtain ⟨ua2,un2,uc2,va2,vn2,vc2⟩:=u2
      have hs7:=hB7.size
      simp only at Z7
      clear F4 M4 Y4 hu4 hB4 hs4 lM4 lY4
      generalize hmp:mp arg=MA at *
      cases MA with
      | none =>
       rw [if_pos (by simp)] at hr
       have HE:=hide hr
       clear hr
       go_wp2
       go_ret
       exact ⟨by rw [← unhide HE]; rfl,hB7⟩
      | some z =>
       rw [if_neg (by simp)] at hr
       have hff:=unhide HFF ⟨ua,un,uc,va,vn,vc⟩ ⟨ua2,un2,uc2,va2,vn2,vc2⟩ _ _ _ hB7 hy7 hu7
       simp only [true_and] at hr
       generalize Ck.frameFits T y (Ck.orNone (some z))=FB at *
       have HFB:=hide hff
       have f0:=blk_cell F7 0
       have f1:=blk_cell F7 1
       have y0:=blk_cell Y7 0
       have y1:=blk_cell Y7 1
       have z0:=blk_cell Z7 0
       have z1:=blk_cell Z7 1
       simp at f0 f1 y0 y1 z0 z1
       clear hff
       cases FB with
       | false =>
        rw [if_pos rfl] at hr
        have HE:=hide hr
        clear hr
        go_wp2_with fail
        refine (unhide HFB).mono ?_
        rintro e w8 ⟨rfl,hb8⟩
        have hB8:=hB7.trans (hb8.mono hs7)
        go_wp2
        go_ret
        exact ⟨by rw [← unhide HE]; rfl,hB8⟩
       | true =>
        rw [if_neg (by simp)] at hr
        have HE:=hide hr
        clear hr
        go_wp2_with fail
        refine (unhide HFB).mono ?_
        rintro e w8 ⟨rfl,hb8⟩
        have hB8:=hB7.trans (hb8.mono hs7)
        have F8:=stay hb8 F7
        have M8:=stay hb8 M7
        have Y8:=stay hb8 Y7
        have hy8:=hy7.below hb8
        clear f0 f1 y0 y1 z0 z1 hb8
        go_wp2
        go_meet
        case rel=>exact ⟨hB8,F8,M8,Y8,hy8,HE⟩
   case rest =>
    obtain ⟨hB5,F5,M5,Y5,hy5,HE⟩:=hcut
    have hs5:=hB5.size
    clear HA F4 M4 Y4 hu4 hB4 HJ HH HR HAR
    have hr:=unhide HE
    cases G with
    | false =>
     rw [if_pos rfl] at hr
     have HF:=hide hr
     clear hr HE
     go_wp2_with fail
     refine (unhide HG _).mono ?_
     rintro e w6 ⟨rfl,hb6⟩
     have hB6:=hB5.trans (hb6.mono hs5)
     go_wp2
     go_ret
     exact ⟨by rw [← unhide HF]; rfl,hB6⟩
    | true =>
     rw [if_neg (by simp)] at hr
     go_wp2_with fail
     refine (unhide HG _).mono ?_
     rintro e w6 ⟨rfl,hb6⟩
     have hB6:=hB5.trans (hb6.mono hs5)
     have F6:=stay hb6 F5
     have M6:=stay hb6 M5
     have Y6:=stay hb6 Y5
     have hy6:=hy5.below hb6
     clear hb6 F5 M5 Y5 hy5 HE HG
     have m0:=blk_cell M6 0
     have m1:=blk_cell M6 1
     have m2:=blk_cell M6 2
     have m3:=blk_cell M6 3
     have m4:=blk_cell M6 4
     have m5:=blk_cell M6 5
     have m6:=blk_cell M6 6
     have m7:=blk_cell M6 7
     have m8:=blk_cell M6 8
     have m9:=blk_cell M6 9
     have m10:=blk_cell M6 10
     have m11:=blk_cell M6 11
     simp at m0 m1 m2 m3 m4 m5 m6 m7 m8 m9 m10 m11
     go_wp2_with fail
     refine (unhide HNX _).mono ?_
     rintro e w7 ⟨rfl,hb7⟩
     have hB7:=hB6.trans (hb7.mono hB6.size)
     have F7:=stay hb7 F6
     have M7:=stay hb7 M6
     have Y7:=stay hb7 Y6
     have hy7:=hy6.below hb7
     have hs7:=hB7.size
     clear hb7 F6 M6 Y6 hy6 m0 m1 m2 m3 m4 m5 m6 m7 m8 m9 m10 m11 hB6 hB5 hs5
     have m0:=blk_cell M7 0
     have m1:=blk_cell M7 1
     have m2:=blk_cell M7 2
     have m3:=blk_cell M7 3
     have m4:=blk_cell M7 4
     have m5:=blk_cell M7 5
     have m6:=blk_cell M7 6
     have m7:=blk_cell M7 7
     have m8:=blk_cell M7 8
     have m9:=blk_cell M7 9
     have m10:=blk_cell M7 10
     have m11:=blk_cell M7 11
     simp at m0 m1 m2 m3 m4 m5 m6 m7 m8 m9 m10 m11
     by_cases hle:(code.size:Int)≤(nxt:Int)
     ·rw [if_pos hle] at hr
      have HF:=hide hr
      clear hr
      go_wp2
      go_ret
      exact ⟨by rw [← unhide HF]; rfl,hB7⟩
     ·rw [if_neg hle] at hr
      have hle':(nxt:Int) < (code.size:Int):=by omega
      go_wp2_with fail
      refine (unhide HMP (nxt:Int) _ hB7).mono ?_
      rintro e w8 ⟨u2,rfl,hu8,hb8⟩
      obtain ⟨ua2,un2,uc2,va2,vn2,vc2⟩:=u2
      have hB8:=hB7.trans (hb8.mono hs7)
      have hs8:=hB8.size
      have F8:=stay hb8 F7
      have Y8:=stay hb8 Y7
      have hy8:=hy7.below hb8
      clear hb8 F7 M7 Y7 hy7 m0 m1 m2 m3 m4 m5 m6 m7 m8 m9 m10 m11
      have hB9:=hB8.alloc hs8 (.cells #[.slice ua2 un2 uc2,.slice va2 vn2 vc2] 75)
      have hff:=unhide HFF ⟨ua,un,uc,va,vn,vc⟩ ⟨ua2,un2,uc2,va2,vn2,vc2⟩ _ _ _ hB9 (hy8.below ((Below.refl _ _).alloc (Nat.le_refl _) _)) (hu8.below ((Below.refl _ _).alloc (Nat.le_refl _) _))
      generalize Ck.frameFits T y (Ck.orNone (mp (nxt:Int)))=FB at *
      generalize (mp (nxt:Int)).isSome=SB at *
      have HFB:=hide hff
      have f0:=blk_cell F8 0
      have f1:=blk_cell F8 1
      have y0:=blk_cell Y8 0
      have y1:=blk_cell Y8 1
      have lF:=lt_of_block F8
      have lY:=lt_of_block Y8
      simp at f0 f1 y0 y1
      have HF:=hide hr
      clear hff hr
      go_wp2_with fail
      refine (unhide HFB).mono ?_
      rintro e w9 ⟨rfl,hb9⟩
      have hB10:=hB9.trans (hb9.mono hB9.size)
      have hr:=unhide HF
      cases SB <;> cases FB <;> simp at hr <;> (have HF2:=hide hr; clear hr HF; go_wp2; go_ret; exact ⟨by rw [← unhide HF2]; rfl,hB10⟩)
 ·rw [if_pos h0] at hr
  have HA:=hide hr
  have h0':(H != 0)=true:=by simpa using h0
  clear hr h0
  go_enter Tryz.func87,Tryz.ntmps87
  go_wp2_with fail
  refine (unhide HH _ hB0).mono ?_
  rintro e w1 ⟨rfl,hb1⟩
  have hB1:=hB0.trans (hb1.mono hB0.size)
  go_wp2
  go_ret
  exact ⟨by rw [← unhide HA]; rfl,hB1⟩
end Go.Proofs.YteffpdofcgbokaaGreat

/-
  The walk over the document's Ahead.
-/
namespace Go.Proofs.YteffpdofcgbokaaGreat
open Go.RowKit

theorem ahead_past (mp:Nat→Option Ck.Fr) (rl:Nat→Ck.Fr→Option Ck.Fr) (go:Nat→Bool) (c:List Int) (q k p:Nat) (o:Option Ck.Fr) (h:q < p∨c.length≤p):Ck.ahead mp rl go q (Cd.starts c k p) o=o:=by
 rcases h with h | h
 ·cases k with
  | zero=>rfl
  | succ j =>
   unfold Cd.starts
   split
   ·rw [Ck.ahead,if_pos h]
   ·rfl
 ·rw [Cd.starts_end h]; rfl

set_option maxRecDepth 100000 in
set_option maxHeartbeats 40000000 in
/-- P: what is true of every frame that comes up -/
theorem rahead_any (f:RFv) (m:RMV) (q:Nat) (mp:Nat→Option Ck.Fr) (rl:Nat→Ck.Fr→Option Ck.Fr) (x0:Ck.Fr) (P:Ck.Fr→Prop) (w:World) (hs:m.code.size≤100000) (hq:q≤100000)
  (hSt:∀ w',Below w.heap.size w w'→Calls Tryz.prog 85 #[m.val] w' fun e w''=>∃ u:FrV,e=.returned u.val∧u.is x0 w''∧Below w'.heap.size w' w'')
  (hMp:∀ (q:Nat) w',Below w.heap.size w w'→Calls Tryz.prog 83 #[m.val,.int .i64 (q:Int)] w' fun e w''=>∃ u:FrV,e=.returned (.tuple #[u.val,.bool (mp q).isSome])∧u.is (Ck.orNone (mp q)) w''∧Below w'.heap.size w' w'')
  (hRl:∀ (q:Nat) (v:FrV) (x:Ck.Fr) w',Below w.heap.size w w'→q∈Cd.places (nums m.code)→v.is x w'→P x→Calls Tryz.prog 127 #[f.val,m.val,.int .i64 (q:Int),v.val] w' fun e w''=>∃ u:FrV,e=.returned (.tuple #[u.val,.bool (rl q x).isSome])∧(∀ y,rl q x=some y→u.is y w'')∧Below w'.heap.size w' w'')
  (hP0:P x0) (hPm:∀ q z,mp q=some z→P z) (hPr:∀ q x y,q∈Cd.places (nums m.code)→P x→rl q x=some y→P y) :
  Calls Tryz.prog 86 #[f.val,m.val,.int .i64 (q:Int)] w fun e w'=>∃ u:FrV,
   e=.returned (.tuple #[u.val,.bool (Ck.ahead mp rl (fun p=>Ck.goes ((nums m.code).getD p 0)) q (Cd.places (nums m.code)) (some x0)).isSome]) ∧
   (∀ y,Ck.ahead mp rl (fun p=>Ck.goes ((nums m.code).getD p 0)) q (Cd.places (nums m.code)) (some x0)=some y→u.is y w'∧P y)∧Below w.heap.size w w':=by
 have hNx:=fun p w' hp=>rNext_any m p w' hp hs
 have hnl:=nums_len m.code
 have hna:=nums_at m.code
 generalize hgo:(fun p=>Ck.goes ((nums m.code).getD p 0))=go
 have HGO:∀ p (hp:p < m.code.size),go p=Ck.goes (m.code[p].toNat:Int):=fun p hp=>by rw [← hgo]; simp only; rw [hna p hp]
 generalize hA:Ck.ahead mp rl go q (Cd.places (nums m.code)) (some x0)=A
 have hD:([]:List Nat) ++ Cd.starts (nums m.code) (nums m.code).length 0=Cd.places (nums m.code):=rfl
 have hA0:Ck.ahead mp rl go q (Cd.starts (nums m.code) (nums m.code).length 0) (some x0)=A:=hA
 generalize nums m.code=c at *
 obtain ⟨fa1,fl,fc1,fa2,fm,fc2⟩:=f
 obtain ⟨cl,nm,pa,pl,pc,r1,r2,lo,st,code,ha,hl,hc,ma,ml,mc,mAt,fin⟩:=m
 simp only [RMV.val,RFv.val,FrV.val] at hs hSt hMp hRl hNx hnl hna HGO ⊢
 have HST:=hide hSt
 have HMP:=hide hMp
 have HRL:=hide hRl
 have HNX:=hide hNx
 have HPM:=hide hPm
 have HPR:=hide hPr
 have HGO':=hide HGO
 have HNA:=hide hna
 have HA:=hide hA0
 have HD:=hide hD
 clear hSt hMp hRl hNx hPm hPr hgo hA hA0 HGO hna hD
 have hB0:=below3 w (.cells #[.slice fa1 fl fc1,.slice fa2 fm fc2] 28) (.cells #[.int .i64 cl,.int .i64 nm,.slice pa pl pc,.int .i64 r1,.int .i64 r2,.int .i64 lo,.int .i64 st,.string code,.slice ha hl hc,.slice ma ml mc,.int .i64 mAt,.int .i64 fin] 52) (.cells #[.slice none 0 0,.slice none 0 0] 75)
 obtain ⟨F0,M0,Z0⟩:=blks3 w (.cells #[.slice fa1 fl fc1,.slice fa2 fm fc2] 28) (.cells #[.int .i64 cl,.int .i64 nm,.slice pa pl pc,.int .i64 r1,.int .i64 r2,.int .i64 lo,.int .i64 st,.string code,.slice ha hl hc,.slice ma ml mc,.int .i64 mAt,.int .i64 fin] 52) (.cells #[.slice none 0 0,.slice none 0 0] 75)
 go_enter Tryz.func86,Tryz.ntmps86
 go_wp2_with fail
 refine (unhide HST _ hB0).mono ?_
 rintro e w1 ⟨u,rfl,hu,hb1⟩
 obtain ⟨ua,un,uc,va,vn,vc⟩:=u
 have hB1:=hB0.trans (hb1.mono hB0.size)
 have hs1:=hB1.size
 have F1:=stay1 (stay hb1 F0) (.cells #[.slice ua un uc,.slice va vn vc] 75)
 have M1:=stay1 (stay hb1 M0) (.cells #[.slice ua un uc,.slice va vn vc] 75)
 have Z1:=stay1 (stay hb1 Z0) (.cells #[.slice ua un uc,.slice va vn vc] 75)
 have Y1:=alloc_blk w1 (.cells #[.slice ua un uc,.slice va vn vc] 75)
 have hB2:=hB1.alloc hs1 (.cells #[.slice ua un uc,.slice va vn vc] 75)
 have hu2:=hu.below ((Below.refl _ _).alloc (Nat.le_refl _) (.cells #[.slice ua un uc,.slice va vn vc] 75))
 have lZ1:=lt_of_block (stay hb1 Z0)
 clear hb1 hu F0 M0 Z0
 go_wp2
 go_loopw [9,10] (fun s9 s10 wr=>∃ (p k:Nat) (o:Option Ck.Fr) (d:List Nat) (u:FrV),s9=.bool o.isSome∧s10=.int .i64 (p:Int)∧p≤200000∧c.length≤p+k∧Hid (d ++ Cd.starts c k p=Cd.places c)∧Hid (Ck.ahead mp rl go q (Cd.starts c k p) o=A) ∧
   wr.heap[w1.heap.size]?=some (.cells #[.slice u.la u.ln u.lc,.slice u.sa u.sn u.sc] 75 (0,0))∧(∀ x,o=some x→u.is x wr∧P x) ∧
   Below w.heap.size w wr∧wr.heap[w.heap.size]?=some (.cells #[.slice fa1 fl fc1,.slice fa2 fm fc2] 28 (0,0))∧wr.heap[w.heap.size+1]?=some (.cells #[.int .i64 cl,.int .i64 nm,.slice pa pl pc,.int .i64 r1,.int .i64 r2,.int .i64 lo,.int .i64 st,.string code,.slice ha hl hc,.slice ma ml mc,.int .i64 mAt,.int .i64 fin] 52 (0,0))∧wr.heap[w.heap.size+1+1]?=some (.cells #[.slice none 0 0,.slice none 0 0] 75 (0,0)))
  (fun _ v _=>c.length - (intOf v).toNat)
 case atStart =>
  exact ⟨0,c.length,some x0,[],⟨ua,un,uc,va,vn,vc⟩,rfl,rfl,by omega,by omega,HD,HA,Y1,fun x hx=>by obtain rfl:=Option.some.inj hx; exact ⟨hu2,hP0⟩,hB2,F1,M1,Z1⟩
 case round =>
  clear HA HD F1 M1 Z1 Y1 hB2 hu2 hB1 hs1 hB0 HST hP0
  obtain ⟨p,k,o,d,u,rfl,rfl,hp2,hk,HD,HA,Y,hu,hB,F,M,Z⟩:=hrel
  obtain ⟨ua,un,uc,va,vn,vc⟩:=u
  simp only at Y
  have hBs:=hB.size
  by_cases hpq:p≤q∧p < c.length
  ·have hpi:(p:Int)≤(q:Int):=by omega
   have hpc:p < code.size:=by omega
   have hpl:(p:Int) < (code.size:Int):=by omega
   obtain ⟨j,rfl,hj,hst⟩:=Cd.starts_go (c:=c) (k:=k) (p:=p) hpq.2 hk
   have hd:=unhide HD
   have hr:=unhide HA
   rw [hst] at hr hd
   have hmem:p∈Cd.places c:=by rw [← hd]; simp
   have hwd:=Cd.wd_bd (c.getD p 0)
   have HDJ:Hid ((d ++ [p]) ++ Cd.starts c j (p+Cd.wd (c.getD p 0))=Cd.places c):=by unfold Hid; rw [← hd]; simp
   have hnx:=fun w'=>unhide HNX p w' hpc
   have hgp:=unhide HGO' p hpc
   have hcp:=unhide HNA p hpc
   have hwb:IntKind.i64.wrap ((code[p].toNat:Nat):Int)=((code[p].toNat:Nat):Int):=wrap_in _ (by omega) (by have:=code[p].toNat_lt; omega)
   have hgo2:=fun w'=>rgoes_any (code[p].toNat:Int) w'
   rw [← hgp] at hgo2
   have hpast:=ahead_past mp rl go c q j (p+Cd.wd (c.getD p 0))
   generalize Cd.wd (c.getD p 0)=wdp at *
   rw [Ck.ahead,if_neg (by omega)] at hr
   have HNXP:=hide hnx
   have HG:=hide hgo2
   have hpm:=unhide HPM p
   have hmpp:=fun w' h=>unhide HMP p w' h
   have hstep:Ck.step mp rl go p o=((mp p).or o).bind fun x=>(rl p x).bind fun z=>if go p=true then some z else none:=rfl
   have m0:=blk_cell M 0
   have m1:=blk_cell M 1
   have m2:=blk_cell M 2
   have m3:=blk_cell M 3
   have m4:=blk_cell M 4
   have m5:=blk_cell M 5
   have m6:=blk_cell M 6
   have m7:=blk_cell M 7
   have m8:=blk_cell M 8
   have m9:=blk_cell M 9
   have m10:=blk_cell M 10
   have m11:=blk_cell M 11
   simp at m0 m1 m2 m3 m4 m5 m6 m7 m8 m9 m10 m11
   generalize mp p=MPP at *
   have HMPP:=hide hmpp
   have HR:=hide hr
   have HSTEP:=hide hstep
   have HPAST:=hide hpast
   clear hnx hgo2 hmpp hr hd hst HD HA hgp hcp hstep hpast
   go_wp2_with fail
   refine (unhide HMPP _ hB).mono ?_
   rintro e w2 ⟨u2,rfl,hu2,hb2⟩
   obtain ⟨ua2,un2,uc2,va2,vn2,vc2⟩:=u2
   have hB2:=hB.trans (hb2.mono hBs)
   have hs2:=hB2.size
   have F2:=stay1 (stay hb2 F) (.cells #[.slice ua2 un2 uc2,.slice va2 vn2 vc2] 75)
   have M2:=stay1 (stay hb2 M) (.cells #[.slice ua2 un2 uc2,.slice va2 vn2 vc2] 75)
   have Z2:=stay1 (stay hb2 Z) (.cells #[.slice ua2 un2 uc2,.slice va2 vn2 vc2] 75)
   have X2:=stay hb2 Y
   have X3:=stay1 X2 (.cells #[.slice ua2 un2 uc2,.slice va2 vn2 vc2] 75)
   have hB3:=hB2.alloc hs2 (.cells #[.slice ua2 un2 uc2,.slice va2 vn2 vc2] 75)
   clear m0 m1 m2 m3 m4 m5 m6 m7 m8 m9 m10 m11
   have x0:=blk_cell X2 0
   have x1:=blk_cell X2 1
   have p0:=blk_free X2 0
   have p1:=blk_free X2 1
   have lX:=lt_of_block X2
   simp at x0 x1
   go_upto_if 37 with fail
   go_cut [9] from 18 to 64 (fun s9 wx=>∃ u':FrV,s9=.bool (MPP.or o).isSome∧wx.heap[w1.heap.size]?=some (.cells #[.slice u'.la u'.ln u'.lc,.slice u'.sa u'.sn u'.sc] 75 (0,0))∧(∀ x,MPP.or o=some x→u'.is x wx∧P x) ∧
    Below w.heap.size w wx∧wx.heap[w.heap.size]?=some (.cells #[.slice fa1 fl fc1,.slice fa2 fm fc2] 28 (0,0))∧wx.heap[w.heap.size+1]?=some (.cells #[.int .i64 cl,.int .i64 nm,.slice pa pl pc,.int .i64 r1,.int .i64 r2,.int .i64 lo,.int .i64 st,.string code,.slice ha hl hc,.slice ma ml mc,.int .i64 mAt,.int .i64 fin] 52 (0,0))∧wx.heap[w.heap.size+1+1]?=some (.cells #[.slice none 0 0,.slice none 0 0] 75 (0,0)))
   case first =>
    cases MPP with
    | none =>
     go_wp2
     go_meet
     case rel=>exact ⟨⟨ua,un,uc,va,vn,vc⟩,rfl,X3,fun x hx=>⟨((hu x hx).1.below hb2).below ((Below.refl _ _).alloc (Nat.le_refl _) _),(hu x hx).2⟩,hB3,F2,M2,Z2⟩
    | some z =>
     have hPz:=hpm z rfl
     go_wp2
     go_meet
     case rel=>exact ⟨⟨ua2,un2,uc2,va2,vn2,vc2⟩,rfl,stay1 (set2_blk X2 _ _) _,fun x hx=>by obtain rfl:=Option.some.inj hx; exact ⟨(hu2.set2 X2 _ _).below ((Below.refl _ _).alloc (Nat.le_refl _) _),hPz⟩,((hB2.setCell (by simp; omega) _).setCell (by simp; omega) _).alloc (by simp; omega) _,stay1 ((set2_ne (by omega)).trans (stay hb2 F)) _,stay1 ((set2_ne (by omega)).trans (stay hb2 M)) _,stay1 ((set2_ne (by omega)).trans (stay hb2 Z)) _⟩
   case rest =>
    obtain ⟨u3,rfl,X4,hu4,hB4,F4,M4,Z4⟩:=hcut
    obtain ⟨ua3,un3,uc3,va3,vn3,vc3⟩:=u3
    simp only at X4
    have hs4:=hB4.size
    clear F2 M2 Z2 X2 X3 hB3 x0 x1 p0 p1 lX hu2 hu hb2 hB2 hs2 Y F M Z
    have hr:=unhide HR
    have hstep:=unhide HSTEP
    generalize MPP.or o=o1 at *
    have m0:=blk_cell M4 0
    have m1:=blk_cell M4 1
    have m2:=blk_cell M4 2
    have m3:=blk_cell M4 3
    have m4:=blk_cell M4 4
    have m5:=blk_cell M4 5
    have m6:=blk_cell M4 6
    have m7:=blk_cell M4 7
    have m8:=blk_cell M4 8
    have m9:=blk_cell M4 9
    have m10:=blk_cell M4 10
    have m11:=blk_cell M4 11
    simp at m0 m1 m2 m3 m4 m5 m6 m7 m8 m9 m10 m11
    by_cases he:p=q
    ·rw [if_pos he] at hr
     have hz:=unhide HPAST o1 (by omega)
     have HG2:Hid (Ck.ahead mp rl go q (Cd.starts c j (p+wdp)) o1=A):=by unfold Hid; rw [hz,hr]
     have he':((p:Int) == (q:Int))=true:=by simp; omega
     clear hr hz hstep HSTEP HR HPAST he
     go_wp2_with fail
     refine (unhide HNXP _).mono ?_
     rintro e w5 ⟨rfl,hb5⟩
     have hB5:=hB4.trans (hb5.mono hs4)
     clear m0 m1 m2 m3 m4 m5 m6 m7 m8 m9 m10 m11
     go_wp2
     go_roundw
     case rel=>exact ⟨p+wdp,j,o1,d ++ [p],⟨ua3,un3,uc3,va3,vn3,vc3⟩,rfl,rfl,by omega,by omega,HDJ,HG2,stay hb5 X4,fun x hx=>⟨(hu4 x hx).1.below hb5,(hu4 x hx).2⟩,hB5,stay hb5 F4,stay hb5 M4,stay hb5 Z4⟩
     case measure=>simp [intOf]; omega
    ·rw [if_neg he] at hr
     have he':((p:Int) == (q:Int))=false:=by simp; omega
     clear he
     cases o1 with
     | none =>
      have HG2:Hid (Ck.ahead mp rl go q (Cd.starts c j (p+wdp)) none=A):=by unfold Hid; rw [← hr,hstep]; rfl
      clear hr hstep HSTEP HR HPAST
      go_wp2_with fail
      refine (unhide HNXP _).mono ?_
      rintro e w5 ⟨rfl,hb5⟩
      have hB5:=hB4.trans (hb5.mono hs4)
      clear m0 m1 m2 m3 m4 m5 m6 m7 m8 m9 m10 m11
      go_wp2
      go_roundw
      case rel=>exact ⟨p+wdp,j,none,d ++ [p],⟨ua3,un3,uc3,va3,vn3,vc3⟩,rfl,rfl,by omega,by omega,HDJ,HG2,stay hb5 X4,fun x hx=>(by cases hx),hB5,stay hb5 F4,stay hb5 M4,stay hb5 Z4⟩
      case measure=>simp [intOf]; omega
     | some x =>
      obtain ⟨hux,hPx⟩:=hu4 x rfl
      have hrl:=fun w' h hv=>unhide HRL p ⟨ua3,un3,uc3,va3,vn3,vc3⟩ x w' h hmem hv hPx
      have hprr:=fun y=>unhide HPR p x y hmem hPx
      have hgg:Ck.step mp rl go p o=(rl p x).bind fun z=>if go p=true then some z else none:=hstep
      rw [hgg] at hr
      simp only at hrl
      generalize rl p x=RX at *
      have HR2:=hide hr
      have HRX:=hide hrl
      clear hr hstep HSTEP HR HPAST hgg hrl hu4
      have x0:=blk_cell X4 0
      have x1:=blk_cell X4 1
      have f0:=blk_cell F4 0
      have f1:=blk_cell F4 1
      simp at x0 x1 f0 f1
      go_wp2_with fail
      refine (unhide HRX _ hB4 hux).mono ?_
      rintro e w5 ⟨u5,rfl,hu5,hb5⟩
      obtain ⟨ua5,un5,uc5,va5,vn5,vc5⟩:=u5
      have hB5:=hB4.trans (hb5.mono hs4)
      have hs5:=hB5.size
      have F5:=stay hb5 F4
      have M5:=stay hb5 M4
      have Z5:=stay hb5 Z4
      have X5:=stay hb5 X4
      clear m0 m1 m2 m3 m4 m5 m6 m7 m8 m9 m10 m11 x0 x1 f0 f1 hb5 F4 M4 Z4 X4
      have m7:=blk_cell M5 7
      have lM:=lt_of_block M5
      simp at m7
      go_wp2_with fail
      refine (unhide HG _).mono ?_
      rintro e w6 ⟨rfl,hb6⟩
      have hB6:=(hB5.alloc hs5 (.cells #[.slice ua5 un5 uc5,.slice va5 vn5 vc5] 75)).trans (hb6.mono (by simp; omega))
      have hs6:=hB6.size
      have F6:=stay hb6 (stay1 F5 _)
      have M6:=stay hb6 (stay1 M5 _)
      have Z6:=stay hb6 (stay1 Z5 _)
      have X6:=stay hb6 (stay1 X5 _)
      have T6:=stay hb6 (alloc_blk w5 (.cells #[.slice ua5 un5 uc5,.slice va5 vn5 vc5] 75))
      have hu6:∀ y,RX=some y→FrV.is ⟨ua5,un5,uc5,va5,vn5,vc5⟩ y w6∧P y:=fun y hy=>⟨((hu5 y hy).below ((Below.refl _ _).alloc (Nat.le_refl _) _)).below hb6,hprr y hy⟩
      have t0:=blk_cell T6 0
      have t1:=blk_cell T6 1
      have x0:=blk_cell X6 0
      have x1:=blk_cell X6 1
      have p0:=blk_free X6 0
      have p1:=blk_free X6 1
      have lx:=lt_of_block X6
      have lx5:=lt_of_block X5
      simp at t0 t1 x0 x1
      have M7:((w6.setCell ⟨w1.heap.size,0,none⟩ (.slice ua5 un5 uc5)).setCell ⟨w1.heap.size,1,none⟩ (.slice va5 vn5 vc5)).heap[w.heap.size+1]?=some (.cells #[.int .i64 cl,.int .i64 nm,.slice pa pl pc,.int .i64 r1,.int .i64 r2,.int .i64 lo,.int .i64 st,.string code,.slice ha hl hc,.slice ma ml mc,.int .i64 mAt,.int .i64 fin] 52 (0,0)):=(set2_ne (by omega)).trans M6
      have hB7:=(hB6.setCell (p:=⟨w1.heap.size,0,none⟩) (by simp; omega) (.slice ua5 un5 uc5)).setCell (p:=⟨w1.heap.size,1,none⟩) (by simp; omega) (.slice va5 vn5 vc5)
      clear m7 lM F5 M5 Z5 X5 hb6 hu5
      have m0:=blk_cell M7 0
      have m1:=blk_cell M7 1
      have m2:=blk_cell M7 2
      have m3:=blk_cell M7 3
      have m4:=blk_cell M7 4
      have m5:=blk_cell M7 5
      have m6:=blk_cell M7 6
      have m7:=blk_cell M7 7
      have m8:=blk_cell M7 8
      have m9:=blk_cell M7 9
      have m10:=blk_cell M7 10
      have m11:=blk_cell M7 11
      simp at m0 m1 m2 m3 m4 m5 m6 m7 m8 m9 m10 m11
      have HG3:Hid (Ck.ahead mp rl go q (Cd.starts c j (p+wdp)) (if RX.isSome && go p then RX else none)=A):=by
       unfold Hid
       rw [← unhide HR2]
       cases RX <;> cases go p <;> rfl
      clear HR2
      generalize go p=gp at *
      cases RX <;> cases gp
      all_goals
       go_wp2_with fail
       refine (unhide HNXP _).mono ?_
       rintro e w8 ⟨rfl,hb8⟩
       have hB8:=hB7.trans (hb8.mono hB7.size)
       clear m0 m1 m2 m3 m4 m5 m6 m7 m8 m9 m10 m11 t0 t1 x0 x1
       go_wp2
       go_roundw
       case rel=>exact ⟨p+wdp,j,_,d ++ [p],⟨ua5,un5,uc5,va5,vn5,vc5⟩,rfl,rfl,by omega,by omega,HDJ,HG3,stay hb8 (set2_blk X6 _ _),fun x hx=>(by first | exact ⟨((hu6 x hx).1.set2 X6 _ _).below hb8,(hu6 x hx).2⟩ | cases hx),hB8,stay hb8 ((set2_ne (by omega)).trans F6),stay hb8 M7,stay hb8 ((set2_ne (by omega)).trans Z6)⟩
       case measure=>simp [intOf]; omega
  ·have hr:=unhide HA
   rw [ahead_past mp rl go c q k p o (by omega)] at hr
   subst hr
   have z0:=blk_cell Z 0
   have z1:=blk_cell Z 1
   have q0:=blk_free Z 0
   have q1:=blk_free Z 1
   have y0:=blk_cell Y 0
   have y1:=blk_cell Y 1
   have m7:=blk_cell M 7
   have lZ:=lt_of_block Z
   simp at z0 z1 y0 y1 m7
   clear HA HD
   by_cases h1:p≤q
   ·have h1':(p:Int)≤(q:Int):=by omega
    have h2':¬ (p:Int) < (code.size:Int):=by omega
    go_wp2
    refine bodyPost_ret (v:=.tuple #[.agg #[.slice ua un uc,.slice va vn vc],.bool o.isSome]) (by simp [results,Tryz.results86,go_sem,z0,z1]) rfl ?_
    exact ⟨⟨ua,un,uc,va,vn,vc⟩,rfl,fun y hy=>⟨(hu y hy).1.set2 Z _ _,(hu y hy).2⟩,(hB.setCell (by simp; omega) _).setCell (by simp; omega) _⟩
   ·have h1':¬ (p:Int)≤(q:Int):=by omega
    go_wp2
    refine bodyPost_ret (v:=.tuple #[.agg #[.slice ua un uc,.slice va vn vc],.bool o.isSome]) (by simp [results,Tryz.results86,go_sem,z0,z1]) rfl ?_
    exact ⟨⟨ua,un,uc,va,vn,vc⟩,rfl,fun y hy=>⟨(hu y hy).1.set2 Z _ _,(hu y hy).2⟩,(hB.setCell (by simp; omega) _).setCell (by simp; omega) _⟩
end Go.Proofs.YteffpdofcgbokaaGreat

/-
  The walk over the document's checked.
-/
namespace Go.Proofs.YteffpdofcgbokaaGreat
open Go.RowKit

/-- P11, of one method -/
def Ck.checked (T:List Int) (m0:Option Ck.Fr) (x0:Ck.Fr) (ah:Nat→Option Ck.Fr) (lk:Nat→Ck.Fr→Int) (ps:List Nat):Int × Int :=
 if m0.isSome=true∧Ck.frameFits T x0 (Ck.orNone m0)=false then (9,0) else Ck.lookAll ah lk ps

theorem fycells {w:World}{k1 k2 k3:Nat}{cl nm r1 r2 lo st mAt fin:Int}{pa ha ma:Option Addr}{pl pc hl hc ml mc:Nat}{code:ByteArray}{a1 a2 b1 b2:Option Addr}{n1 c1 n2 c2 n3 c3 n4 c4:Nat} (hF:w.heap[k1]?=some (.cells #[.slice a1 n1 c1,.slice a2 n2 c2] 28 (0,0))) (hM:w.heap[k2]?=some (.cells #[.int .i64 cl,.int .i64 nm,.slice pa pl pc,.int .i64 r1,.int .i64 r2,.int .i64 lo,.int .i64 st,.string code,.slice ha hl hc,.slice ma ml mc,.int .i64 mAt,.int .i64 fin] 52 (0,0)))
  (hY:w.heap[k3]?=some (.cells #[.slice b1 n3 c3,.slice b2 n4 c4] 75 (0,0))) :
  (w.cell? ⟨k1,0,none⟩=some (.slice a1 n1 c1)∧w.cell? ⟨k1,1,none⟩=some (.slice a2 n2 c2))∧(w.cell? ⟨k3,0,none⟩=some (.slice b1 n3 c3)∧w.cell? ⟨k3,1,none⟩=some (.slice b2 n4 c4))∧w.cell? ⟨k2,0,none⟩=some (.int .i64 cl)∧w.cell? ⟨k2,1,none⟩=some (.int .i64 nm)∧w.cell? ⟨k2,2,none⟩=some (.slice pa pl pc)∧w.cell? ⟨k2,3,none⟩=some (.int .i64 r1)∧w.cell? ⟨k2,4,none⟩=some (.int .i64 r2)∧w.cell? ⟨k2,5,none⟩=some (.int .i64 lo)∧w.cell? ⟨k2,6,none⟩=some (.int .i64 st)∧w.cell? ⟨k2,7,none⟩=some (.string code)∧w.cell? ⟨k2,8,none⟩=some (.slice ha hl hc)∧w.cell? ⟨k2,9,none⟩=some (.slice ma ml mc)∧w.cell? ⟨k2,10,none⟩=some (.int .i64 mAt)∧w.cell? ⟨k2,11,none⟩=some (.int .i64 fin):=by
 refine ⟨⟨?_,?_⟩,⟨?_,?_⟩,lkcells hM⟩
 ·rw [blk_cell hF]; rfl
 ·rw [blk_cell hF]; rfl
 ·rw [blk_cell hY]; rfl
 ·rw [blk_cell hY]; rfl

set_option maxRecDepth 100000 in
set_option maxHeartbeats 40000000 in
theorem rchecked_any (f:RFv) (T:List Int) (m:RMV) (mp:Nat→Option Ck.Fr) (x0:Ck.Fr) (P:Ck.Fr→Prop) (ah:Nat→Option Ck.Fr) (lk:Nat→Ck.Fr→Int) (w:World) (hs:m.code.size≤100000) (hF:f.fitsAs T w)
  (hSt:∀ w',Below w.heap.size w w'→Calls Tryz.prog 85 #[m.val] w' fun e w''=>∃ u:FrV,e=.returned u.val∧u.is x0 w''∧Below w'.heap.size w' w'')
  (hMp:∀ (q:Nat) w',Below w.heap.size w w'→Calls Tryz.prog 83 #[m.val,.int .i64 (q:Int)] w' fun e w''=>∃ u:FrV,e=.returned (.tuple #[u.val,.bool (mp q).isSome])∧u.is (Ck.orNone (mp q)) w''∧Below w'.heap.size w' w'')
  (hAh:∀ (q:Nat) w',Below w.heap.size w w'→q≤100000→Calls Tryz.prog 86 #[f.val,m.val,.int .i64 (q:Int)] w' fun e w''=>∃ u:FrV,e=.returned (.tuple #[u.val,.bool (ah q).isSome])∧(∀ y,ah q=some y→u.is y w''∧P y)∧Below w'.heap.size w' w'')
  (hLk:∀ (q:Nat) (v:FrV) (x:Ck.Fr) w',Below w.heap.size w w'→q∈Cd.places (nums m.code)→v.is x w'→P x→Calls Tryz.prog 87 #[f.val,m.val,.int .i64 (q:Int),v.val] w' fun e w''=>e=.returned (.int .i64 (lk q x))∧Below w'.heap.size w' w'') :
  Calls Tryz.prog 52 #[f.val,m.val] w fun e w' =>
   e=.returned (.tuple #[.int .i64 (Ck.checked T (mp 0) x0 ah lk (Cd.places (nums m.code))).1,.int .i64 (Ck.checked T (mp 0) x0 ah lk (Cd.places (nums m.code))).2])∧Below w.heap.size w w':=by
 have hFF:=fun (u u':FrV) (y y':Ck.Fr) w' (h:Below w.heap.size w w') hu hu'=>rframeFits_any f T u u' y y' w' (hF.below h) hu hu'
 have hNx:=fun p w' hp=>rNext_any m p w' hp hs
 have hnl:=nums_len m.code
 generalize hR:Ck.checked T (mp 0) x0 ah lk (Cd.places (nums m.code))=R
 unfold Ck.checked at hR
 have hD:([]:List Nat) ++ Cd.starts (nums m.code) (nums m.code).length 0=Cd.places (nums m.code):=rfl
 have hm0:∀ w',Below w.heap.size w w'→Calls Tryz.prog 83 #[m.val,.int .i64 0] w' fun e w''=>∃ u:FrV,e=.returned (.tuple #[u.val,.bool (mp 0).isSome])∧u.is (Ck.orNone (mp 0)) w''∧Below w'.heap.size w' w'':=fun w' h=>hMp 0 w' h
 generalize nums m.code=c at *
 obtain ⟨fa1,fl,fc1,fa2,fm,fc2⟩:=f
 obtain ⟨cl,nm,pa,pl,pc,r1,r2,lo,st,code,ha,hl,hc,ma,ml,mc,mAt,fin⟩:=m
 simp only [RMV.val,RFv.val,FrV.val] at hs hSt hm0 hAh hLk hFF hNx hnl ⊢
 have HST:=hide hSt
 have HMP:=hide hm0
 have HAH:=hide hAh
 have HLK:=hide hLk
 have HFF:=hide hFF
 have HNX:=hide hNx
 have HD:=hide hD
 have HRR:=hide hR
 clear hSt hMp hm0 hAh hLk hFF hNx hD hF hR
 have hB0:=below2 w (.cells #[.slice fa1 fl fc1,.slice fa2 fm fc2] 28) (.cells #[.int .i64 cl,.int .i64 nm,.slice pa pl pc,.int .i64 r1,.int .i64 r2,.int .i64 lo,.int .i64 st,.string code,.slice ha hl hc,.slice ma ml mc,.int .i64 mAt,.int .i64 fin] 52)
 have F0:=alloc1_blk w (.cells #[.slice fa1 fl fc1,.slice fa2 fm fc2] 28) (.cells #[.int .i64 cl,.int .i64 nm,.slice pa pl pc,.int .i64 r1,.int .i64 r2,.int .i64 lo,.int .i64 st,.string code,.slice ha hl hc,.slice ma ml mc,.int .i64 mAt,.int .i64 fin] 52)
 have M0:=alloc2_blk w (.cells #[.slice fa1 fl fc1,.slice fa2 fm fc2] 28) (.cells #[.int .i64 cl,.int .i64 nm,.slice pa pl pc,.int .i64 r1,.int .i64 r2,.int .i64 lo,.int .i64 st,.string code,.slice ha hl hc,.slice ma ml mc,.int .i64 mAt,.int .i64 fin] 52)
 go_enter Tryz.func52,Tryz.ntmps52
 go_wp2_with fail
 refine (unhide HMP _ hB0).mono ?_
 rintro e w1 ⟨u,rfl,hu,hb1⟩
 obtain ⟨ua,un,uc,va,vn,vc⟩:=u
 have hB1:=hB0.trans (hb1.mono hB0.size)
 have hs1:=hB1.size
 have F1:=stay1 (stay hb1 F0) (.cells #[.slice ua un uc,.slice va vn vc] 75)
 have M1:=stay1 (stay hb1 M0) (.cells #[.slice ua un uc,.slice va vn vc] 75)
 have Y1:=alloc_blk w1 (.cells #[.slice ua un uc,.slice va vn vc] 75)
 have hB2:=hB1.alloc hs1 (.cells #[.slice ua un uc,.slice va vn vc] 75)
 have hu2:=hu.below ((Below.refl _ _).alloc (Nat.le_refl _) (.cells #[.slice ua un uc,.slice va vn vc] 75))
 clear hb1 hu F0 M0
 go_wp2
 go_region_held3 (fun w'=>(w'.cell? ⟨w.heap.size,0,none⟩=some (.slice fa1 fl fc1)∧w'.cell? ⟨w.heap.size,1,none⟩=some (.slice fa2 fm fc2))∧(w'.cell? ⟨w1.heap.size,0,none⟩=some (.slice ua un uc)∧w'.cell? ⟨w1.heap.size,1,none⟩=some (.slice va vn vc))∧w'.cell? ⟨w.heap.size+1,0,none⟩=some (.int .i64 cl)∧w'.cell? ⟨w.heap.size+1,1,none⟩=some (.int .i64 nm)∧w'.cell? ⟨w.heap.size+1,2,none⟩=some (.slice pa pl pc)∧w'.cell? ⟨w.heap.size+1,3,none⟩=some (.int .i64 r1)∧w'.cell? ⟨w.heap.size+1,4,none⟩=some (.int .i64 r2)∧w'.cell? ⟨w.heap.size+1,5,none⟩=some (.int .i64 lo)∧w'.cell? ⟨w.heap.size+1,6,none⟩=some (.int .i64 st)∧w'.cell? ⟨w.heap.size+1,7,none⟩=some (.string code)∧w'.cell? ⟨w.heap.size+1,8,none⟩=some (.slice ha hl hc)∧w'.cell? ⟨w.heap.size+1,9,none⟩=some (.slice ma ml mc)∧w'.cell? ⟨w.heap.size+1,10,none⟩=some (.int .i64 mAt)∧w'.cell? ⟨w.heap.size+1,11,none⟩=some (.int .i64 fin))
  (exact fycells (by repeat (first | exact F1 | refine stay hb5 ?_ | refine stay hb6 ?_)) (by repeat (first | exact M1 | refine stay hb5 ?_ | refine stay hb6 ?_)) (by repeat (first | exact Y1 | refine stay hb5 ?_ | refine stay hb6 ?_)))
  (first | (go_at_call 85; refine (unhide HST _ hB2.drew).mono ?_; rintro e w5 ⟨u5,rfl,hu5,hb5⟩; obtain ⟨ua5,un5,uc5,va5,vn5,vc5⟩:=u5; have hB5:=hB2.drew.trans (hb5.mono (by simp; omega)); have hy5:=(hu2.below (Below.refl _ _).drew).below hb5) | (go_at_call 84; refine (unhide HFF ⟨ua5,un5,uc5,va5,vn5,vc5⟩ ⟨ua,un,uc,va,vn,vc⟩ _ _ _ hB5 hu5 hy5).mono ?_; rintro e w6 ⟨rfl,hb6⟩))
 have hB6:=hB5.trans (hb6.mono hB5.size)
 have F6:=stay hb6 (stay hb5 (show _=_ from F1))
 have M6:=stay hb6 (stay hb5 (show _=_ from M1))
 clear hb5 hb6 hu2 hy5 hu5 F1 M1 Y1 hB5 hB2 hB1
 have hr:=unhide HRR
 generalize Ck.frameFits T x0 (Ck.orNone (mp 0))=FB at *
 generalize (mp 0).isSome=SB at *
 have hs6:=hB6.size
 go_upto_region 3 with fail
 go_cut [27] from 18 (fun s27 wx=>s27=.bool (SB && !FB)∧wx=w6)
 case first =>
  cases SB <;> cases FB
  all_goals
   go_wp2
   go_meet
   case rel=>exact ⟨rfl,rfl⟩
 case rest =>
  obtain ⟨rfl,rfl⟩:=hcut
  have hbd:(SB && !FB)=true↔(SB=true∧FB=false):=by cases SB <;> cases FB <;> simp
  generalize (SB && !FB)=BB at *
  cases BB with
  | true =>
   rw [if_pos (hbd.1 rfl)] at hr
   have HE:=hide hr
   clear hr HRR hbd
   go_wp2
   go_ret2
   exact ⟨by rw [← unhide HE]; rfl,hB6⟩
  | false =>
   rw [if_neg (fun h=>by have:=hbd.2 h; cases this)] at hr
   have HA:Hid (Ck.lookAll ah lk (Cd.starts c c.length 0)=R):=by unfold Hid; rw [← hr]; rfl
   clear hr HRR hbd
   go_wp2
   go_loopw [9] (fun s9 wr=>∃ (p k:Nat) (d:List Nat),s9=.int .i64 (p:Int)∧p≤200000∧c.length≤p+k∧Hid (d ++ Cd.starts c k p=Cd.places c)∧Hid (Ck.lookAll ah lk (Cd.starts c k p)=R) ∧
     Below w.heap.size w wr∧wr.heap[w.heap.size]?=some (.cells #[.slice fa1 fl fc1,.slice fa2 fm fc2] 28 (0,0))∧wr.heap[w.heap.size+1]?=some (.cells #[.int .i64 cl,.int .i64 nm,.slice pa pl pc,.int .i64 r1,.int .i64 r2,.int .i64 lo,.int .i64 st,.string code,.slice ha hl hc,.slice ma ml mc,.int .i64 mAt,.int .i64 fin] 52 (0,0)))
    (fun v _=>c.length - (intOf v).toNat)
   case atStart=>exact ⟨0,c.length,[],rfl,by omega,by omega,HD,HA,hB6,F6,M6⟩
   case round =>
    clear HA HD F6 M6 hB6 hs6
    obtain ⟨p,k,d,rfl,hp2,hk,HD,HA,hB,F,M⟩:=hrel
    have hBs:=hB.size
    by_cases hpq:p < c.length
    ·have hpc:p < code.size:=by omega
     have hpl:(p:Int) < (code.size:Int):=by omega
     obtain ⟨j,rfl,hj,hst⟩:=Cd.starts_go (c:=c) (k:=k) (p:=p) hpq hk
     have hd:=unhide HD
     have hr:=unhide HA
     rw [hst] at hr hd
     have hmem:p∈Cd.places c:=by rw [← hd]; simp
     have hwd:=Cd.wd_bd (c.getD p 0)
     have HDJ:Hid ((d ++ [p]) ++ Cd.starts c j (p+Cd.wd (c.getD p 0))=Cd.places c):=by unfold Hid; rw [← hd]; simp
     have hnx:=fun w'=>unhide HNX p w' hpc
     generalize Cd.wd (c.getD p 0)=wdp at *
     rw [Ck.lookAll] at hr
     have HNXP:=hide hnx
     have hah:=fun w' h=>unhide HAH p w' h (by omega)
     generalize ah p=AP at *
     have HAP:=hide hah
     clear hnx hah hst hd HD HA
     have m0:=blk_cell M 0
     have m1:=blk_cell M 1
     have m2:=blk_cell M 2
     have m3:=blk_cell M 3
     have m4:=blk_cell M 4
     have m5:=blk_cell M 5
     have m6:=blk_cell M 6
     have m7:=blk_cell M 7
     have m8:=blk_cell M 8
     have m9:=blk_cell M 9
     have m10:=blk_cell M 10
     have m11:=blk_cell M 11
     simp at m0 m1 m2 m3 m4 m5 m6 m7 m8 m9 m10 m11
     have f0:=blk_cell F 0
     have f1:=blk_cell F 1
     simp at f0 f1
     cases AP with
     | none =>
      have HG2:Hid (Ck.lookAll ah lk (Cd.starts c j (p+wdp))=R):=hr
      clear hr
      go_wp2_with fail
      refine (unhide HAP _ hB).mono ?_
      rintro e w2 ⟨u2,rfl,-,hb2⟩
      obtain ⟨ua2,un2,uc2,va2,vn2,vc2⟩:=u2
      have hB2:=hB.trans (hb2.mono hBs)
      have hs2:=hB2.size
      have F2:=stay hb2 F
      have M2:=stay hb2 M
      clear hb2 m0 m1 m2 m3 m4 m5 m6 m7 m8 m9 m10 m11 f0 f1
      have m0:=blk_cell M2 0
      have m1:=blk_cell M2 1
      have m2:=blk_cell M2 2
      have m3:=blk_cell M2 3
      have m4:=blk_cell M2 4
      have m5:=blk_cell M2 5
      have m6:=blk_cell M2 6
      have m7:=blk_cell M2 7
      have m8:=blk_cell M2 8
      have m9:=blk_cell M2 9
      have m10:=blk_cell M2 10
      have m11:=blk_cell M2 11
      simp at m0 m1 m2 m3 m4 m5 m6 m7 m8 m9 m10 m11
      have lM:=lt_of_block M2
      go_wp2_with fail
      refine (unhide HNXP _).mono ?_
      rintro e w3 ⟨rfl,hb3⟩
      have hB3:=(hB2.alloc hs2 (.cells #[.slice ua2 un2 uc2,.slice va2 vn2 vc2] 75)).trans (hb3.mono (by simp; omega))
      clear m0 m1 m2 m3 m4 m5 m6 m7 m8 m9 m10 m11
      go_wp2
      go_roundw
      case rel=>exact ⟨p+wdp,j,d ++ [p],rfl,by omega,by omega,HDJ,HG2,hB3,stay hb3 (stay1 F2 _),stay hb3 (stay1 M2 _)⟩
      case measure=>simp [intOf]; omega
     | some x =>
      simp only at hr
      go_wp2_with fail
      refine (unhide HAP _ hB).mono ?_
      rintro e w2 ⟨u2,rfl,hu2,hb2⟩
      obtain ⟨hu2,hPx⟩:=hu2 x rfl
      obtain ⟨ua2,un2,uc2,va2,vn2,vc2⟩:=u2
      have hB2:=hB.trans (hb2.mono hBs)
      have hs2:=hB2.size
      have F2:=stay hb2 F
      have M2:=stay hb2 M
      have hlk:=unhide HLK p ⟨ua2,un2,uc2,va2,vn2,vc2⟩ x _ (hB2.alloc hs2 (.cells #[.slice ua2 un2 uc2,.slice va2 vn2 vc2] 75)) hmem (hu2.below ((Below.refl _ _).alloc (Nat.le_refl _) _)) hPx
      simp only at hlk
      generalize lk p x=LV at *
      have HLV:=hide hlk
      clear hb2 m0 m1 m2 m3 m4 m5 m6 m7 m8 m9 m10 m11 f0 f1 hlk
      have m0:=blk_cell M2 0
      have m1:=blk_cell M2 1
      have m2:=blk_cell M2 2
      have m3:=blk_cell M2 3
      have m4:=blk_cell M2 4
      have m5:=blk_cell M2 5
      have m6:=blk_cell M2 6
      have m7:=blk_cell M2 7
      have m8:=blk_cell M2 8
      have m9:=blk_cell M2 9
      have m10:=blk_cell M2 10
      have m11:=blk_cell M2 11
      simp at m0 m1 m2 m3 m4 m5 m6 m7 m8 m9 m10 m11
      have f0:=blk_cell F2 0
      have f1:=blk_cell F2 1
      have lF:=lt_of_block F2
      have lM:=lt_of_block M2
      simp at f0 f1
      by_cases hl0:LV=0
      ·rw [if_neg (by simpa using hl0)] at hr
       have HG2:Hid (Ck.lookAll ah lk (Cd.starts c j (p+wdp))=R):=hr
       subst hl0
       clear hr
       go_wp2_with fail
       refine (unhide HLV).mono ?_
       rintro e w3 ⟨rfl,hb3⟩
       have hB3:=(hB2.alloc hs2 (.cells #[.slice ua2 un2 uc2,.slice va2 vn2 vc2] 75)).trans (hb3.mono (by simp; omega))
       have F3:=stay hb3 (stay1 F2 _)
       have M3:=stay hb3 (stay1 M2 _)
       clear hb3 m0 m1 m2 m3 m4 m5 m6 m7 m8 m9 m10 m11 f0 f1
       have m0:=blk_cell M3 0
       have m1:=blk_cell M3 1
       have m2:=blk_cell M3 2
       have m3:=blk_cell M3 3
       have m4:=blk_cell M3 4
       have m5:=blk_cell M3 5
       have m6:=blk_cell M3 6
       have m7:=blk_cell M3 7
       have m8:=blk_cell M3 8
       have m9:=blk_cell M3 9
       have m10:=blk_cell M3 10
       have m11:=blk_cell M3 11
       simp at m0 m1 m2 m3 m4 m5 m6 m7 m8 m9 m10 m11
       go_wp2_with fail
       refine (unhide HNXP _).mono ?_
       rintro e w4 ⟨rfl,hb4⟩
       have hB4:=hB3.trans (hb4.mono hB3.size)
       clear m0 m1 m2 m3 m4 m5 m6 m7 m8 m9 m10 m11
       go_wp2
       go_roundw
       case rel=>exact ⟨p+wdp,j,d ++ [p],rfl,by omega,by omega,HDJ,HG2,hB4,stay hb4 F3,stay hb4 M3⟩
       case measure=>simp [intOf]; omega
      ·rw [if_pos hl0] at hr
       have HE:=hide hr
       have hl':(LV != 0)=true:=by simpa using hl0
       clear hr hl0
       go_wp2_with fail
       refine (unhide HLV).mono ?_
       rintro e w3 ⟨rfl,hb3⟩
       have hB3:=(hB2.alloc hs2 (.cells #[.slice ua2 un2 uc2,.slice va2 vn2 vc2] 75)).trans (hb3.mono (by simp; omega))
       go_wp2
       go_ret2
       exact ⟨by rw [← unhide HE]; rfl,hB3⟩
    ·have hr:=unhide HA
     rw [Cd.starts_end (by omega),Ck.lookAll] at hr
     have HE:=hide hr
     have kb:¬ (p:Int) < (code.size:Int):=by omega
     have m7:=blk_cell M 7
     simp at m7
     clear hr HA HD
     go_wp2
     go_ret2
     exact ⟨by rw [← unhide HE]; rfl,hB⟩
end Go.Proofs.YteffpdofcgbokaaGreat

/-
  The walks over package types: owner, own, Field, FieldsOf.
-/
namespace Go.Proofs.YteffpdofcgbokaaGreat
open Go.RowKit
variable {aa:Option Addr}{an ac:Nat}

/-- each class's own fields, as a tree holds them -/
def FldsIn (w:World) (b:Nat) (v:Value) (l:List (Value × List (Int × Int))):Prop:=w.ownsRow b 46 1 v l.length (l.map Prod.fst)∧∀ p∈l,TyR w p.1 p.2
theorem FldsIn.below {w w':World}{b:Nat}{v:Value}{l:List (Value × List (Int × Int))} (h:FldsIn w b v l) (hb:Below w.heap.size w w'):FldsIn w' b v l :=
 ⟨own_kp h.1 (Kp.of_below (e:=none) hb) (by decide),fun p hp=>(h.2 p hp).below hb⟩
theorem FldsIn.at {w:World}{b:Nat}{a:Option Addr}{n c:Nat}{l:List (Value × List (Int × Int))} (h:FldsIn w b (.slice a n c) l) {k:Nat} (hk:k < l.length) :
  ∃ g,a=some ⟨g,0,none⟩∧g < w.heap.size∧∃ xa xc,w.cell? ⟨g,k,none⟩=some (.slice xa l[k].2.length xc)∧TyR w (.slice xa l[k].2.length xc) l[k].2:=by
 obtain ⟨g,hg,hlt,_,hcell⟩:=own_some h.1 (by omega)
 have ht:=h.2 l[k] (List.getElem_mem hk)
 obtain ⟨xa,xc,hv⟩:=ht.shape
 refine ⟨g,hg,hlt,xa,xc,?_,hv ▸ ht⟩
 rw [hcell k (by simpa using hk),List.getElem?_map,List.getElem?_eq_getElem hk,← hv]
 rfl

set_option maxRecDepth 100000 in
set_option maxHeartbeats 8000000 in
theorem owner_any (l:List (Value × List (Int × Int))) (bb:Nat) (ya:Option Addr) (yc:Nat) (n:Int) (w:World) (hl:l.length≤1000) (hn:0≤n∧n≤100000) (hf:∀ p∈l,p.2.length≤1000) (hF:FldsIn w bb (.slice ya l.length yc) l) :
  Calls Tryz.prog 237 #[.agg #[.slice aa an ac,.slice ya l.length yc],.int .i64 n] w fun e w' =>
   e=.returned (.tuple #[.int .i64 (Pk.owner n (l.map Prod.snd) 0 0).1,.int .i64 (Pk.owner n (l.map Prod.snd) 0 0).2])∧Below w.heap.size w w':=by
 generalize hr:Pk.owner n (l.map Prod.snd) 0 0=r
 have HR:Hid (Pk.owner n ((l.map Prod.snd).drop 0) ((0:Nat):Int) ((0:Nat):Int)=r):=hr
 clear hr
 have hB0:Below w.heap.size w (w.alloc (.cells #[.slice aa an ac,.slice ya l.length yc] 87)):=(Below.refl _ _).alloc (Nat.le_refl _) _
 go_enter Tryz.func237,Tryz.ntmps237
 go_wp2
 go_loopw [6,12] (fun f v wr=>∃ (k s:Nat),k≤l.length∧s≤1000 * k∧f=.int .i64 (s:Int)∧v=.int .i64 (k:Int)∧Hid (Pk.owner n ((l.map Prod.snd).drop k) (k:Int) (s:Int)=r)∧wr=w.alloc (.cells #[.slice aa an ac,.slice ya l.length yc] 87))
  (fun _ v _=>l.length - (intOf v).toNat)
 case atStart=>exact ⟨0,0,by omega,by omega,rfl,rfl,HR,rfl⟩
 case round =>
  clear HR
  obtain ⟨k,s,hk,hs,rfl,rfl,HR,rfl⟩:=hrel
  by_cases hkn:k < l.length
  ·obtain ⟨g,rfl,hglt,xa,xc,y0,-⟩:=(hF.below hB0).at hkn
   have hd:(l.map Prod.snd).drop k=l[k].2 :: (l.map Prod.snd).drop (k+1):=by rw [List.drop_eq_getElem_cons (by simpa using hkn)]; simp
   have hr:=unhide HR
   have hfk:=hf l[k] (List.getElem_mem hkn)
   rw [hd,Pk.owner] at hr
   generalize l[k].2=own at *
   have kb:(k:Int) < (l.length:Int):=by omega
   clear HR hd
   by_cases h1:(s:Int)≤n
   ·by_cases h2:n - (s:Int) < (own.length:Int)
    ·rw [if_pos ⟨h1,h2⟩] at hr
     have HE:=hide hr
     clear hr
     go_wp2
     go_ret2
     exact ⟨by rw [← unhide HE]; rfl,hB0⟩
    ·rw [if_neg (by omega)] at hr
     have HG:Hid (Pk.owner n ((l.map Prod.snd).drop (k+1)) ((k+1:Nat):Int) ((s+own.length:Nat):Int)=r):=by unfold Hid; rw [← hr]; push_cast; rfl
     clear hr
     go_wp2
     go_roundw
     case rel=>exact ⟨k+1,s+own.length,by omega,by omega,by go_num,by go_num,HG,trivial⟩
     case measure=>simp [intOf]; omega
   ·rw [if_neg (by omega)] at hr
    have HG:Hid (Pk.owner n ((l.map Prod.snd).drop (k+1)) ((k+1:Nat):Int) ((s+own.length:Nat):Int)=r):=by unfold Hid; rw [← hr]; push_cast; rfl
    clear hr
    go_wp2
    go_roundw
    case rel=>exact ⟨k+1,s+own.length,by omega,by omega,by go_num,by go_num,HG,trivial⟩
    case measure=>simp [intOf]; omega
  ·have hr:=unhide HR
   rw [List.drop_eq_nil_of_le (by simp; omega),Pk.owner] at hr
   have HE:=hide hr
   have kb:¬ (k:Int) < (l.length:Int):=by omega
   clear hr HR
   go_wp2
   go_ret2
   exact ⟨by rw [← unhide HE]; rfl,hB0⟩

set_option maxRecDepth 100000 in
set_option maxHeartbeats 8000000 in
theorem own_any (l:List (Value × List (Int × Int))) (bb:Nat) (ya:Option Addr) (yc:Nat) (c:Int) (w:World) (_hl:l.length≤1000) (hF:FldsIn w bb (.slice ya l.length yc) l) :
  Calls Tryz.prog 238 #[.agg #[.slice aa an ac,.slice ya l.length yc],.int .i64 c] w fun e w' =>
   ∃ xa xc,e=.returned (.slice xa (Pk.own (l.map Prod.snd) c).length xc)∧TyR w' (.slice xa (Pk.own (l.map Prod.snd) c).length xc) (Pk.own (l.map Prod.snd) c)∧Below w.heap.size w w':=by
 have hB0:Below w.heap.size w (w.alloc (.cells #[.slice aa an ac,.slice ya l.length yc] 87)):=(Below.refl _ _).alloc (Nat.le_refl _) _
 unfold Pk.own
 by_cases h1:c < 0
 ·rw [if_pos h1]
  go_enter Tryz.func238,Tryz.ntmps238
  go_wp2
  go_ret
  exact ⟨none,0,rfl,TyR.nil _,hB0⟩
 ·rw [if_neg h1]
  by_cases h2:(l.length:Int)≤c
  ·have e:(l.map Prod.snd).getD c.toNat []=[]:=by rw [List.getD_eq_getElem?_getD,List.getElem?_eq_none (by simp; omega)]; rfl
   rw [e]
   go_enter Tryz.func238,Tryz.ntmps238
   go_wp2
   go_ret
   exact ⟨none,0,rfl,TyR.nil _,hB0⟩
  ·obtain ⟨q,rfl⟩:=Int.eq_ofNat_of_zero_le (show 0≤c by omega)
   have hq:q < l.length:=by omega
   obtain ⟨g,rfl,hglt,xa,xc,y0,ht⟩:=(hF.below hB0).at hq
   have e:(l.map Prod.snd).getD ((q:Nat):Int).toNat []=l[q].2:=by simp [List.getD_eq_getElem?_getD,hq]
   rw [e]
   generalize l[q].2=own at *
   have kb:(q:Int) < (l.length:Int):=by omega
   clear e
   go_enter Tryz.func238,Tryz.ntmps238
   go_wp2
   go_ret
   exact ⟨xa,xc,rfl,ht,hB0⟩

set_option maxRecDepth 100000 in
set_option maxHeartbeats 8000000 in
theorem field_any (l:List (Value × List (Int × Int))) (bb:Nat) (ya:Option Addr) (yc:Nat) (n:Int) (w:World) (hl:l.length≤1000) (hn:0≤n∧n≤100000) (hf:∀ p∈l,p.2.length≤1000) (hF:FldsIn w bb (.slice ya l.length yc) l) :
  Calls Tryz.prog 202 #[.agg #[.slice aa an ac,.slice ya l.length yc],.int .i64 n] w fun e w' =>
   e=.returned (.tuple #[.int .i64 (Pk.field (l.map Prod.snd) n).1,.agg #[.int .i64 (Pk.field (l.map Prod.snd) n).2.1,.int .i64 (Pk.field (l.map Prod.snd) n).2.2]])∧Below w.heap.size w w':=by
 have hO:=fun w' (h:Below w.heap.size w w')=>owner_any (aa:=aa) (an:=an) (ac:=ac) l bb ya yc n w' hl hn hf (hF.below h)
 have hW:=fun c w' (h:Below w.heap.size w w')=>own_any (aa:=aa) (an:=an) (ac:=ac) l bb ya yc c w' hl (hF.below h)
 unfold Pk.field
 generalize Pk.owner n (l.map Prod.snd) 0 0=o at *
 obtain ⟨o1,o2⟩:=o
 have hW:=hW o1
 simp only at hO hW ⊢
 generalize Pk.own (l.map Prod.snd) o1=own at *
 have HO:=hide hO
 have HW:=hide hW
 clear hO hW hF
 have hB0:=below2 w (.cells #[.slice aa an ac,.slice ya l.length yc] 87) (.cells #[.int .i64 0,.int .i64 0] 48)
 have T0:=alloc1_blk w (.cells #[.slice aa an ac,.slice ya l.length yc] 87) (.cells #[.int .i64 0,.int .i64 0] 48)
 have R0:=alloc2_blk w (.cells #[.slice aa an ac,.slice ya l.length yc] 87) (.cells #[.int .i64 0,.int .i64 0] 48)
 generalize hA:(if o2 < 0 then ((-1:Int),((0:Int),(0:Int))) else if (own.length:Int)≤o2 then (-1,(0,0)) else (o1,own.getD o2.toNat (0,0)))=A
 by_cases h1:o2 < 0
 ·rw [if_pos h1] at hA
  subst hA
  go_enter Tryz.func202,Tryz.ntmps202
  go_wp2_with fail
  refine (unhide HO _ hB0).mono ?_
  rintro e w1 ⟨rfl,hb1⟩
  have hB1:=hB0.trans (hb1.mono hB0.size)
  have T1:=stay hb1 T0
  have R1:=stay hb1 R0
  have t0:=blk_cell T1 0
  have t1:=blk_cell T1 1
  simp at t0 t1
  clear hb1 T0 R0
  go_wp2_with fail
  refine (unhide HW _ hB1).mono ?_
  rintro e w2 ⟨xa,xc,rfl,ht,hb2⟩
  have hB2:=hB1.trans (hb2.mono hB1.size)
  have R2:=stay hb2 R1
  have r0:=blk_cell R2 0
  have r1:=blk_cell R2 1
  have q0:=blk_free R2 0
  have q1:=blk_free R2 1
  simp at r0 r1
  clear hb2 T1 R1 t0 t1
  go_wp2
  refine bodyPost_ret (v:=.tuple #[.int .i64 (-1),.agg #[.int .i64 0,.int .i64 0]]) (by simp [results,Tryz.results202,go_sem,r0,r1]) rfl ?_
  exact ⟨rfl,by repeat (first | refine Below.setCell ?_ (by simp) _ | exact hB2)⟩
 ·rw [if_neg h1] at hA
  obtain ⟨q,rfl⟩:=Int.eq_ofNat_of_zero_le (show 0≤o2 by omega)
  by_cases h2:(own.length:Int)≤(q:Int)
  ·rw [if_pos h2] at hA
   subst hA
   go_enter Tryz.func202,Tryz.ntmps202
   go_wp2_with fail
   refine (unhide HO _ hB0).mono ?_
   rintro e w1 ⟨rfl,hb1⟩
   have hB1:=hB0.trans (hb1.mono hB0.size)
   have T1:=stay hb1 T0
   have R1:=stay hb1 R0
   have t0:=blk_cell T1 0
   have t1:=blk_cell T1 1
   simp at t0 t1
   clear hb1 T0 R0
   go_wp2_with fail
   refine (unhide HW _ hB1).mono ?_
   rintro e w2 ⟨xa,xc,rfl,ht,hb2⟩
   have hB2:=hB1.trans (hb2.mono hB1.size)
   have R2:=stay hb2 R1
   have r0:=blk_cell R2 0
   have r1:=blk_cell R2 1
   have q0:=blk_free R2 0
   have q1:=blk_free R2 1
   simp at r0 r1
   clear hb2 T1 R1 t0 t1
   go_wp2
   refine bodyPost_ret (v:=.tuple #[.int .i64 (-1),.agg #[.int .i64 0,.int .i64 0]]) (by simp [results,Tryz.results202,go_sem,r0,r1]) rfl ?_
   exact ⟨rfl,by repeat (first | refine Below.setCell ?_ (by simp) _ | exact hB2)⟩
  ·rw [if_neg h2] at hA
   have hq:q < own.length:=by omega
   have e:own.getD ((q:Nat):Int).toNat (0,0)=own[q]:=by simp [List.getD_eq_getElem?_getD,hq]
   rw [e] at hA
   subst hA
   have kb:(q:Int) < (own.length:Int):=by omega
   clear e h1
   go_enter Tryz.func202,Tryz.ntmps202
   go_wp2_with fail
   refine (unhide HO _ hB0).mono ?_
   rintro e w1 ⟨rfl,hb1⟩
   have hB1:=hB0.trans (hb1.mono hB0.size)
   have T1:=stay hb1 T0
   have R1:=stay hb1 R0
   have t0:=blk_cell T1 0
   have t1:=blk_cell T1 1
   simp at t0 t1
   clear hb1 T0 R0
   go_wp2_with fail
   refine (unhide HW _ hB1).mono ?_
   rintro e w2 ⟨xa,xc,rfl,ht,hb2⟩
   obtain ⟨g,o,rfl,hg,hat⟩:=ht.at (by omega)
   obtain ⟨y0,y1⟩:=hat q hq
   have hB2:=hB1.trans (hb2.mono hB1.size)
   have R2:=stay hb2 R1
   have r0:=blk_cell R2 0
   have r1:=blk_cell R2 1
   have q0:=blk_free R2 0
   have q1:=blk_free R2 1
   simp at r0 r1
   clear hb2 T1 R1 t0 t1 hat
   go_wp2
   go_region
   all_goals
    go_wp2
    refine bodyPost_ret (v:=.tuple #[.int .i64 o1,.agg #[.int .i64 own[q].1,.int .i64 own[q].2]]) (by simp [results,Tryz.results202,go_sem,r0,r1]) rfl ?_
    exact ⟨rfl,by repeat (first | refine Below.drew ?_ | refine Below.setCell ?_ (by simp) _ | exact hB2)⟩

theorem fieldsTo_len2 (T:List Int) (fs:List (List (Int × Int))) (c:Int) (hf:∀ p∈fs,p.length≤1000):∀ d:Nat,(Pk.fieldsTo T fs c d).length≤1000 * d
 | 0=>by simp [Pk.fieldsTo]
 | d+1=>by
  rw [Pk.fieldsTo,List.length_append]
  have ih:=fieldsTo_len2 T fs c hf d
  have:(fs.getD d []).length≤1000:=by
   rw [List.getD_eq_getElem?_getD]
   rcases h:fs[d]? with _ | x
   ·simp
   ·simp; exact hf x (List.mem_of_getElem? h)
  split
  ·omega
  ·rw [List.length_nil]; omega

set_option maxRecDepth 100000 in
set_option maxHeartbeats 8000000 in
theorem fieldsOf_any (T:List Int) (tg tc:Nat) (l:List (Value × List (Int × Int))) (bb:Nat) (ya:Option Addr) (yc:Nat) (c:Int) (w:World) (hl:l.length≤14) (hTl:T.length≤1000) (hf:∀ p∈l,p.2.length≤1000) (hT:TreeIn w tg T) (hF:FldsIn w bb (.slice ya l.length yc) l) :
  Calls Tryz.prog 199 #[.agg #[.slice (some ⟨tg,0,none⟩) T.length tc,.slice ya l.length yc],.int .i64 c] w fun e w' =>
   ∃ xa xc,e=.returned (.slice xa (Pk.fieldsOf T (l.map Prod.snd) c).length xc)∧TysAt w' w.heap.size (.slice xa (Pk.fieldsOf T (l.map Prod.snd) c).length xc) (Pk.fieldsOf T (l.map Prod.snd) c)∧Below w.heap.size w w':=by
 have hfl:∀ d,(Pk.fieldsTo T (l.map Prod.snd) c d).length≤1000 * d:=fieldsTo_len2 T (l.map Prod.snd) c (fun p hp=>by obtain ⟨q,hq,rfl⟩:=List.mem_map.1 hp; exact hf q hq)
 have HN:∀ k,Pk.fieldsTo T (l.map Prod.snd) c (k+1)=Pk.fieldsTo T (l.map Prod.snd) c k ++ (if Tr.within T c (k:Int)=true then (l.map Prod.snd).getD k [] else []):=fun k=>rfl
 have H0:Pk.fieldsTo T (l.map Prod.snd) c 0=[]:=rfl
 have HE:Hid (Pk.fieldsOf T (l.map Prod.snd) c=Pk.fieldsTo T (l.map Prod.snd) c l.length):=by unfold Hid Pk.fieldsOf; rw [List.length_map]
 rw [unhide HE]
 generalize Pk.fieldsTo T (l.map Prod.snd) c=FT at *
 clear HE
 have hB0:Below w.heap.size w (w.alloc (.cells #[.slice (some ⟨tg,0,none⟩) T.length tc,.slice ya l.length yc] 87)):=(Below.refl _ _).alloc (Nat.le_refl _) _
 have T0:=alloc_blk w (.cells #[.slice (some ⟨tg,0,none⟩) T.length tc,.slice ya l.length yc] 87)
 go_enter Tryz.func199,Tryz.ntmps199
 go_wp2
 go_loopw [5,11] (fun u v wr=>∃ k:Nat,k≤l.length∧v=.int .i64 (k:Int)∧wr.ownsRow w.heap.size 48 2 u (FT k).length (tcells (FT k))∧Below w.heap.size w wr ∧
   wr.heap[w.heap.size]?=some (.cells #[.slice (some ⟨tg,0,none⟩) T.length tc,.slice ya l.length yc] 87 (0,0)))
  (fun _ v _=>l.length - (intOf v).toNat)
 case atStart=>exact ⟨0,by omega,rfl,by rw [H0]; exact World.ownsRow_nil _ _ _ _,hB0,T0⟩
 case round =>
  clear hB0 T0
  obtain ⟨k,hk,rfl,hown,hB,hC⟩:=hrel
  have hBs:=hB.size
  obtain ⟨ua,uc,rfl⟩:=own_shape hown
  by_cases hkn:k < l.length
  ·have hFr:=hF.below hB
   obtain ⟨g,rfl,hglt,xa,xc,y0,ht⟩:=hFr.at hkn
   have hfk:=hf l[k] (List.getElem_mem hkn)
   have hn:=HN k
   have e:(l.map Prod.snd).getD k []=l[k].2:=by simp [List.getD_eq_getElem?_getD,hkn]
   rw [e] at hn
   generalize l[k].2=own at *
   have hfk2:=hfl k
   have kb:(k:Int) < (l.length:Int):=by omega
   have t0:=blk_cell hC 0
   have t1:=blk_cell hC 1
   simp at t0 t1
   have hW:=within_any (ya:=some ⟨g,0,none⟩) (yn:=l.length) (yc:=yc) T tg tc c (k:Int) wr hTl (hT.below hB)
   cases hwi:Tr.within T c (k:Int) with
   | true =>
    rw [hwi] at hW hn
    rw [if_pos rfl] at hn
    have HW:=hide hW
    have HNN:=hide hn
    clear hW hn hwi e
    go_wp2_with fail
    refine (unhide HW).mono ?_
    rintro e w1 ⟨rfl,hb1⟩
    have hB1:=hB.trans (hb1.mono hBs)
    have hs1:=hB1.size
    have hC1:=stay hb1 hC
    have hown1:=own_kp hown (Kp.of_below (e:=none) hb1) (by decide)
    have ht1:=ht.below hb1
    clear hb1 hown ht
    go_wp2_with (at_builtin; refine append_tyr rfl _ _ rfl w.heap.size _ (FT k) own xa own.length xc rfl hown1 rfl ht1 (by omega) (by omega) ?_)
    intro v' w2 hown2 hgrow
    have hB2:=hB1.grown hgrow (by omega) (fun j hj=>(hown1.lt j hj).1)
    have hC2:=Kp.of_grown (b:=0) hgrow hown1 _ _ _ (Nat.zero_le _) hC1 (by decide)
    have hown3:w2.ownsRow w.heap.size 48 2 v' (FT (k+1)).length (tcells (FT (k+1))):=by rw [unhide HNN,List.length_append]; exact hown2
    clear hgrow hown1 hown2
    go_wp2
    go_roundw
    case rel=>exact ⟨k+1,by omega,by go_num,hown3,hB2,hC2⟩
    case measure=>simp [intOf]; omega
   | false =>
    rw [hwi] at hW hn
    rw [if_neg (by simp),List.append_nil] at hn
    have HW:=hide hW
    have HNN:=hide hn
    clear hW hn hwi e
    go_wp2_with fail
    refine (unhide HW).mono ?_
    rintro e w1 ⟨rfl,hb1⟩
    have hB1:=hB.trans (hb1.mono hBs)
    have hC1:=stay hb1 hC
    have hown1:w1.ownsRow w.heap.size 48 2 (.slice ua (FT k).length uc) (FT (k+1)).length (tcells (FT (k+1))):=by rw [unhide HNN]; exact own_kp hown (Kp.of_below (e:=none) hb1) (by decide)
    clear hb1
    go_wp2
    go_roundw
    case rel=>exact ⟨k+1,by omega,by go_num,hown1,hB1,hC1⟩
    case measure=>simp [intOf]; omega
  ·obtain rfl:k=l.length:=by omega
   have kb:¬ (l.length:Int) < (l.length:Int):=by omega
   go_wp2
   go_ret
   exact ⟨ua,uc,rfl,hown,hB⟩
end Go.Proofs.YteffpdofcgbokaaGreat

/-
  The bench of package rules: its block and its two rows, what its methods leave.
-/
namespace Go.Proofs.YteffpdofcgbokaaGreat
open Go.RowKit

/-- what stays of a bench: its tree, its highest -/
structure BnC where
 tg:Nat
 tc:Nat
 ya:Option Addr
 yn:Nat
 yc:Nat
 hi:Int
 T:List Int
abbrev FrV.lv (v:FrV):Value:=.slice v.la v.ln v.lc
abbrev FrV.sv (v:FrV):Value:=.slice v.sa v.sn v.sc
/-- j is no block of the bench at k -/
def FrV.free (v:FrV) (k j:Nat):Prop:=j ≠ k∧v.lv.ownBlock ≠ some j∧v.sv.ownBlock ≠ some j
structure BnAt (w:World) (B k:Nat) (c:BnC) (v:FrV) (b:Pk.B):Prop where
 blk:w.heap[k]?=some (.cells #[.slice (some ⟨c.tg,0,none⟩) c.T.length c.tc,.slice c.ya c.yn c.yc,.slice v.la v.ln v.lc,.slice v.sa v.sn v.sc,.int .i64 c.hi,.bool b.br] 261 (0,0))
 lo:TysAt w B v.lv b.lo
 st:TysAt w B v.sv b.st
 nk:v.lv.ownBlock ≠ some k∧v.sv.ownBlock ≠ some k
 ns:∀ j,v.lv.ownBlock=some j→v.sv.ownBlock ≠ some j
 hB:B≤k
 tr:TreeIn w c.tg c.T
 tB:c.tg < B
 tl:c.T.length≤1000
 ll:b.lo.length≤1000
 sl:b.st.length≤5000
/-- from w to w' only the bench at k was worked on -/
structure Bn (k:Nat) (w:World) (v:FrV) (w':World) (v':FrV):Prop where
 bel:Below 0 w w'
 blk:∀ j,j < w.heap.size→v.free k j→w'.heap[j]?=w.heap[j]?∧v'.free k j
theorem Bn.refl (k:Nat) (w:World) (v:FrV):Bn k w v w v:=⟨Below.refl _ _,fun _ _ h=>⟨rfl,h⟩⟩
theorem Bn.trans {k:Nat}{a b c:World}{u v x:FrV} (h:Bn k a u b v) (h':Bn k b v c x):Bn k a u c x :=
 ⟨h.bel.trans h'.bel,fun j hj hf=>by
  obtain ⟨e,f⟩:=h.blk j hj hf
  obtain ⟨e',f'⟩:=h'.blk j (Nat.lt_of_lt_of_le hj h.bel.size) f
  exact ⟨e'.trans e,f'⟩⟩
theorem Bn.of_below {k:Nat}{a b:World} (v:FrV) (h:Below a.heap.size a b):Bn k a v b v:=⟨⟨h.os,h.tape,h.output,h.size,fun _ hj=>absurd hj (Nat.not_lt_zero _)⟩,fun j hj hf=>⟨h.block j hj,hf⟩⟩
theorem Bn.stay {k j:Nat}{w w':World}{v v':FrV}{o:Obj} (h:Bn k w v w' v') (hf:v.free k j) (hb:w.heap[j]?=some o):w'.heap[j]?=some o:=(h.blk j (lt_of_block hb) hf).1.trans hb
theorem Bn.free {k j:Nat}{w w':World}{v v':FrV} (h:Bn k w v w' v') (hf:v.free k j) (hj:j < w.heap.size):v'.free k j:=(h.blk j hj hf).2

theorem own_at {b size n:Nat}{t:TypeId}{v:Value}{xs:List Value}{w w':World} (h:w.ownsRow b t size v n xs) (hk:∀ j,v.ownBlock=some j→w'.heap[j]?=w.heap[j]?):w'.ownsRow b t size v n xs:=by
 obtain ⟨e1,e2 | ⟨g,cap,cur,a,c,d,r⟩⟩:=h
 ·exact ⟨e1,.inl e2⟩
 ·exact ⟨e1,.inr ⟨g,cap,cur,a,c,by rw [hk g (by rw [a]; rfl)]; exact d,r⟩⟩
theorem BnAt.k_lt {w:World}{B k:Nat}{c:BnC}{v:FrV}{b:Pk.B} (h:BnAt w B k c v b):k < w.heap.size:=lt_of_block h.blk
/-- blocks below B are free -/
theorem BnAt.low {w:World}{B k j:Nat}{c:BnC}{v:FrV}{b:Pk.B} (h:BnAt w B k c v b) (hj:j < B):v.free k j :=
 ⟨by have:=h.hB; omega,fun e=>by have:=(h.lo.lt j e).1; omega,fun e=>by have:=(h.st.lt j e).1; omega⟩
theorem BnAt.new {w:World}{B k j:Nat}{c:BnC}{v:FrV}{b:Pk.B} (h:BnAt w B k c v b) (hj:w.heap.size≤j):v.free k j :=
 ⟨by have:=h.k_lt; omega,fun e=>by have:=(h.lo.lt j e).2; omega,fun e=>by have:=(h.st.lt j e).2; omega⟩
theorem BnAt.B_le {w:World}{B k:Nat}{c:BnC}{v:FrV}{b:Pk.B} (h:BnAt w B k c v b):B≤w.heap.size:=Nat.le_of_lt (Nat.lt_of_le_of_lt h.hB h.k_lt)
theorem Bn.low {w w':World}{B k:Nat}{c:BnC}{v v':FrV}{b:Pk.B} (h:Bn k w v w' v') (hb:BnAt w B k c v b):Below B w w' :=
 ⟨h.bel.os,h.bel.tape,h.bel.output,h.bel.size,fun j hj=>(h.blk j (Nat.lt_of_lt_of_le hj hb.B_le) (hb.low hj)).1⟩
theorem BnAt.below {w w':World}{B k:Nat}{c:BnC}{v:FrV}{b:Pk.B} (h:BnAt w B k c v b) (hb:Below w.heap.size w w'):BnAt w' B k c v b :=
 ⟨stay hb h.blk,own_at h.lo (fun j hj=>hb.block j (h.lo.lt j hj).2),own_at h.st (fun j hj=>hb.block j (h.st.lt j hj).2),h.nk,h.ns,h.hB,h.tr.below hb,h.tB,h.tl,h.ll,h.sl⟩
theorem BnAt.alloc {w:World}{B k:Nat}{c:BnC}{v:FrV}{b:Pk.B} (h:BnAt w B k c v b) (o:Obj):BnAt (w.alloc o) B k c v b:=h.below ((Below.refl _ _).alloc (Nat.le_refl _) o)
theorem BnAt.drew {w:World}{B k:Nat}{c:BnC}{v:FrV}{b:Pk.B} (h:BnAt w B k c v b):BnAt w.drew B k c v b:=h.below (Below.refl _ _).drew
theorem Bn.alloc {k:Nat}{w w':World}{v v':FrV} (h:Bn k w v w' v') (o:Obj):Bn k w v (w'.alloc o) v':=h.trans (Bn.of_below v' ((Below.refl _ _).alloc (Nat.le_refl _) o))
theorem Bn.drew {k:Nat}{w w':World}{v v':FrV} (h:Bn k w v w' v'):Bn k w v w'.drew v':=h.trans (Bn.of_below v' (Below.refl _ _).drew)
theorem treeIn_at {w w':World}{g B:Nat}{l:List Int} (h:TreeIn w g l) (hg:g < B) (hb:Below B w w'):TreeIn w' g l :=
 ⟨Nat.lt_of_lt_of_le h.1 hb.size,fun i hi=>by rw [hb.cell (p:=⟨g,i,none⟩) hg]; exact h.2 i hi⟩
/-- the bench's block itself written: its stack's slice -/
theorem BnAt.setS {w:World}{B k:Nat}{c:BnC}{v:FrV}{b:Pk.B} (h:BnAt w B k c v b) {sa:Option Addr}{sn sc:Nat}{st:List (Int × Int)} (ht:TysAt w B (.slice sa sn sc) st) (hl:st.length≤5000)
  (hk:(Value.slice sa sn sc).ownBlock ≠ some k) (hs:∀ j,v.lv.ownBlock=some j→(Value.slice sa sn sc).ownBlock ≠ some j) :
  BnAt (w.setCell ⟨k,3,none⟩ (.slice sa sn sc)) B k c ⟨v.la,v.ln,v.lc,sa,sn,sc⟩ ⟨b.lo,st,b.br⟩ :=
 ⟨by rw [set_blk h.blk]; rfl,own_at h.lo (fun j hj=>heap_set_ne (fun e=>h.nk.1 (e ▸ hj))),own_at ht (fun j hj=>heap_set_ne (fun e=>hk (e ▸ hj))),⟨h.nk.1,hk⟩,hs,h.hB,
  treeIn_at h.tr h.tB ((Below.refl B w).setCell (by simpa using h.hB) _),h.tB,h.tl,h.ll,hl⟩
theorem BnAt.brk {w:World}{B k:Nat}{c:BnC}{v:FrV}{b:Pk.B} (h:BnAt w B k c v b):BnAt (w.setCell ⟨k,5,none⟩ (.bool true)) B k c v ⟨b.lo,b.st,true⟩ :=
 ⟨by rw [set_blk h.blk]; rfl,own_at h.lo (fun j hj=>heap_set_ne (fun e=>h.nk.1 (e ▸ hj))),own_at h.st (fun j hj=>heap_set_ne (fun e=>h.nk.2 (e ▸ hj))),h.nk,h.ns,h.hB,
  treeIn_at h.tr h.tB ((Below.refl B w).setCell (by simpa using h.hB) _),h.tB,h.tl,h.ll,h.sl⟩
theorem Bn.setK {k i:Nat}{w w':World}{v v' v2:FrV} (h:Bn k w v w' v') (u:Value) (hl:v2.lv.ownBlock=v'.lv.ownBlock) (hs:v2.sv.ownBlock=v'.sv.ownBlock):Bn k w v (w'.setCell ⟨k,i,none⟩ u) v2 :=
 h.trans ⟨(Below.refl 0 w').setCell (by simp) u,fun j _ hf=>⟨heap_set_ne hf.1,hf.1,by rw [hl]; exact hf.2.1,by rw [hs]; exact hf.2.2⟩⟩
theorem Bn.brk {k:Nat}{w w':World}{v v':FrV} (h:Bn k w v w' v'):Bn k w v (w'.setCell ⟨k,5,none⟩ (.bool true)) v':=h.setK _ rfl rfl
theorem tys_take {w:World}{B n cp:Nat}{a:Option Addr}{l:List (Int × Int)} (h:TysAt w B (.slice a n cp) l) {m:Nat} (hm:m≤l.length):TysAt w B (.slice a m cp) (l.take m):=by
 have hlt:(l.take m).length=m:=by simp; omega
 obtain ⟨hl,⟨hv,hn⟩ | ⟨g,cap,cur,hv,hb,hg,hlen,hmx,hsz,htk⟩⟩:=h
 ·simp only [Value.slice.injEq] at hv
  obtain ⟨rfl,rfl,rfl⟩:=hv
  have:m=0:=by omega
  subst this
  exact ⟨by simp [tcells],.inl ⟨rfl,by simp⟩⟩
 ·simp only [Value.slice.injEq] at hv
  obtain ⟨rfl,rfl,rfl⟩:=hv
  refine ⟨by rw [tcells_len],.inr ⟨g,cp,cur,by rw [hlt],hb,hg,by omega,hmx,hsz,?_⟩⟩
  rw [tcells_take,hlt,← htk,List.take_take]
  congr 1; omega
/-- a free block, the caller's own, written -/
theorem BnAt.setF {w:World}{B k j i:Nat}{c:BnC}{v:FrV}{b:Pk.B} (h:BnAt w B k c v b) (hf:v.free k j) (hj:B≤j) (u:Value):BnAt (w.setCell ⟨j,i,none⟩ u) B k c v b :=
 ⟨(heap_set_ne (Ne.symm hf.1)).trans h.blk,own_at h.lo (fun x hx=>heap_set_ne (fun e=>hf.2.1 (e ▸ hx))),own_at h.st (fun x hx=>heap_set_ne (fun e=>hf.2.2 (e ▸ hx))),h.nk,h.ns,h.hB,
  treeIn_at h.tr h.tB ((Below.refl B w).setCell (by simpa using hj) _),h.tB,h.tl,h.ll,h.sl⟩
theorem Bn.setF {k j i:Nat}{w w':World}{v v':FrV} (h:Bn k w v w' v') (hj:w.heap.size≤j) (u:Value):Bn k w v (w'.setCell ⟨j,i,none⟩ u) v' :=
 ⟨h.bel.setCell (by simp) u,fun x hx hf=>by
  obtain ⟨e,f⟩:=h.blk x hx hf
  exact ⟨(heap_set_ne (by omega)).trans e,f⟩⟩

/-- append onto a row of the call's own, as one step of a region that draws its order: where the new row lies, too -/
theorem step_append_own_at {P:Program}{ops:Array Oper}{o:Oper}{a:Act}{w:World}{K:Act→World→Prop}{Q:Exit→Act→World→Prop}{E:Prop}
  (hg:o.guard=none) (s x:Operand) (t:TypeId) (hop:o.op=Op.call { callee:=Callee.builtin Builtin.append,args:=#[s,x],argTypes:=#[t,t] })
  (base:Nat) (e:TypeId) (i:TypeInfo) (z:Value) (size bytes:Nat) (h1:P.underlying t=some (.slice e)) (h2:P.info? e=some i) (h3:i.zero=some z) (h4:i.size=size) (h5:i.bytes=bytes) (h6:z.cells.size=size) (h7:0 < size)
  (v:Value) (n:Nat) (xs:List Value) (hs:a.eval s=v) (hown:w.ownsRow base e size v n xs)
  (ad:Addr) (m c:Nat) (news:List Value) (hx:a.eval x=.slice (some ad) m c) (hn:news.length=m * size) (hc:∀ j u,news[j]?=some u→w.cell? (ad.add j)=some u) (h1c:∀ u∈news,u.oneCell'=true)
  (b1:n+m≤maxLen) (b2:(n+m) * bytes≤140737488355328) (b3:base≤w.heap.size)
  (hK:∀ v' w',w'.ownsRow base e size v' (n+m) (xs ++ news)→w.grownBy w' v.ownBlock→(v'.ownBlock=v.ownBlock∨v'.ownBlock=some w.heap.size)→K (a.put o.dst v') w') :
  if Region.wanted o (yielded ops a.tmps)=true then Oper.wp P o a w K Q else E:=by
 have hw:Region.wanted o (yielded ops a.tmps)=true:=by simp [Region.wanted,hg]
 rw [if_pos hw]
 obtain ⟨v',w',hrun,r1,r2,_,r3⟩:=run_append_own_at (P:=P) w base t o.type e i z size bytes h1 h2 h3 h4 h5 h6 h7 v n xs hown ad m c news hn hc h1c b1 b2 b3
 unfold Oper.wp
 simp [execOp,hop,resolve,invoke,builtin,hs,hx,hrun,Result.andThen]
 exact hK v' w' r1 r2 r3

/-- the stack's row grown, and laid into the bench -/
theorem BnAt.grown {w w':World}{B k:Nat}{c:BnC}{v:FrV}{b:Pk.B} (h:BnAt w B k c v b) {sa:Option Addr}{sn sc:Nat}{st:List (Int × Int)} (hg:w.grownBy w' v.sv.ownBlock) (ht:TysAt w' B (.slice sa sn sc) st) (hl:st.length≤5000)
  (hat:(Value.slice sa sn sc).ownBlock=v.sv.ownBlock∨(Value.slice sa sn sc).ownBlock=some w.heap.size) :
  BnAt (w'.setCell ⟨k,3,none⟩ (.slice sa sn sc)) B k c ⟨v.la,v.ln,v.lc,sa,sn,sc⟩ ⟨b.lo,st,b.br⟩∧Bn k w v (w'.setCell ⟨k,3,none⟩ (.slice sa sn sc)) ⟨v.la,v.ln,v.lc,sa,sn,sc⟩:=by
 have hblk:w'.heap[k]?=_:=(hg.block k h.k_lt (fun e=>h.nk.2 e.symm)).trans h.blk
 have hlo:∀ j,v.lv.ownBlock=some j→w'.heap[j]?=w.heap[j]?:=fun j hj=>hg.block j (h.lo.lt j hj).2 (fun e=>h.ns j hj e.symm)
 have hk:(Value.slice sa sn sc).ownBlock ≠ some k:=by
  rcases hat with e | e
  ·rw [e]; exact h.nk.2
  ·rw [e]; intro g; have:=h.k_lt; simp at g; omega
 have hs:∀ j,v.lv.ownBlock=some j→(Value.slice sa sn sc).ownBlock ≠ some j:=by
  intro j hj
  rcases hat with e | e
  ·rw [e]; exact h.ns j hj
  ·rw [e]; intro g; have:=(h.lo.lt j hj).2; simp at g; omega
 have hbel:Below B w w':=⟨hg.os,hg.tape,hg.output,hg.size,fun j hj=>hg.block j (Nat.lt_of_lt_of_le hj h.B_le) (fun e=>by have:=(h.st.lt j e.symm).1; omega)⟩
 have hA:BnAt w' B k c v ⟨b.lo,b.st,b.br⟩→True:=fun _=>trivial
 clear hA
 refine ⟨⟨by rw [set_blk hblk]; rfl,own_at (own_at h.lo hlo) (fun j hj=>heap_set_ne (fun e=>h.nk.1 (e ▸ hj))),own_at ht (fun j hj=>heap_set_ne (fun e=>hk (e ▸ hj))),⟨h.nk.1,hk⟩,hs,h.hB,
  treeIn_at (treeIn_at h.tr h.tB hbel) h.tB ((Below.refl B w').setCell (by simpa using h.hB) _),h.tB,h.tl,h.ll,hl⟩,?_⟩
 refine ⟨(⟨hg.os,hg.tape,hg.output,hg.size,fun j hj=>absurd hj (Nat.not_lt_zero _)⟩:Below 0 w w').setCell (by simp) _,fun j hj hf=>⟨?_,hf.1,hf.2.1,?_⟩⟩
 ·rw [heap_set_ne hf.1]
  exact hg.block j hj (fun e=>hf.2.2 e.symm)
 ·rcases hat with e | e
  ·exact fun g=>hf.2.2 (e.symm.trans g)
  ·intro g
   rw [e] at g
   simp at g
   omega
end Go.Proofs.YteffpdofcgbokaaGreat
