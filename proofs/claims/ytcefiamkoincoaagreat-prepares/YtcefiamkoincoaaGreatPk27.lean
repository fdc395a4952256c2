/- a part of the proof -/
import Derived.BigRegion
import Derived.Test.YtcefiamkoincoaaGreatPk26
set_option maxRecDepth 100000
set_option maxHeartbeats 40000000
set_option linter.unusedVariables false
set_option linter.unusedSimpArgs false
namespace Go.Proofs.YtcefiamkoincoaaGreat
open Go.RowKit
def Ae1 (p:Acm) (v:FrV):Value:=.agg #[.bool p.on,.bool p.aim,.slice v.la v.ln v.lc,.slice v.sa v.sn v.sc]
theorem Qc {T:List Int}{a b:List (Int × Int)} (h:a.length=b.length):(List.zipWith (Tr.joinT T) a b).length=a.length:=by simp[h]
theorem Tv (f:RFv) (T:List Int) (p:Acm) (v u:FrV) (y:Zt) (a:Bool) (w:World) (hJ:f.joinsAs T w) (hv:v.is p.fr w) (hu:u.is y w) (hA:p.on=true→Aay T p.fr) (hY:Aay T y) (hl:p.on=true→p.fr.locals.length=y.locals.length) (h8:y.locals.length≤1000∧y.stack.length≤1000) :
  Calls Tryz.prog 144 #[f.val,Ae1 p v,u.val,.bool a] w fun e w'=>∃ z:FrV,e=.returned (.tuple #[Ae1 (Abg T p y a).1 z,.bool (Abg T p y a).2.1,.bool (Abg T p y a).2.2])∧z.is (Abg T p y a).1.fr w'∧Below w.heap.size w w':=by
 obtain⟨on,aim,fr⟩:=p;obtain⟨xl,xs⟩:=fr;obtain⟨yl,ys⟩:=y;obtain⟨la,ln,lc,sa,sn,sc⟩:=v;obtain⟨la',ln',lc',sa',sn',sc'⟩:=u;obtain⟨e1,-,-⟩:=hv.lo.cap;obtain⟨e2,-,-⟩:=hv.st.cap;obtain⟨e3,-,-⟩:=hu.lo.cap;obtain⟨e4,-,-⟩:=hu.st.cap;simp only at hA hY hl h8 e1 e2 e3 e4;subst e1 e2 e3 e4;have h1:=fun w' (h:Below w.heap.size w w') ho=>Jb f T xl yl la la' xl.length lc yl.length lc' w' (hJ.below h) (hv.lo.below h) (hu.lo.below h) (hA ho).1 hY.1 (by have:=hl ho;omega) (hl ho);have h2:=fun w' (h:Below w.heap.size w w') ho hs=>Jb f T xs ys sa sa' xs.length sc ys.length sc' w' (hJ.below h) (hv.st.below h) (hu.st.below h) (hA ho).2 hY.2 (by omega) hs;have h3:=fun (l:List (Int × Int)) (b:Option Addr) (c:Nat) w' (h:Below w.heap.size w w') hb hl1 hl2=>Ky l xl b la c lc w' hb (hv.lo.below h) hl1 hl2;have h4:=fun (l:List (Int × Int)) (b:Option Addr) (c:Nat) w' (h:Below w.heap.size w w') hb hl1 hl2=>Ky l xs b sa c sc w' hb (hv.st.below h) hl1 hl2;have hB0:=Bp w (O11 f.fa1 f.fl f.fc1 f.fa2 f.fm f.fc2) (O31 on aim la xl.length lc sa xs.length sc) (O25 la' yl.length lc' sa' ys.length sc') (O31 false false none 0 0 none 0 0);obtain⟨F0,S0,Y0,Z0⟩:=Bf w (O11 f.fa1 f.fl f.fc1 f.fa2 f.fm f.fc2) (O31 on aim la xl.length lc sa xs.length sc) (O25 la' yl.length lc' sa' ys.length sc') (O31 false false none 0 0 none 0 0);generalize hR:Abg T ⟨on,aim,⟨xl,xs⟩⟩ ⟨yl,ys⟩ a=R;unfold Abg at hR;simp only[Ae1,FrV.val,RFv.val]at h1 h2 ⊢;have hn1:=hv.lo;have hn2:=hv.st;have hm1:=hu.lo;have hm2:=hu.st;simp only at hn1 hn2 hm1 hm2;have hx5:=And.intro hv.hl hv.hs;simp only at hx5;clear hJ hv hu hA hY;cases on with
 | false =>
  rw[if_pos rfl]at hR;subst hR;obtain⟨z0,z1,z2,z3⟩:=cl4 Z0;obtain⟨q0,q1,q2,q3⟩:=fr4 Z0;have lZ:=lt_of_block Z0;simp at z0 z1 z2 z3;clear h1 h2 h3 h4 hl;go_enter Tryz.func144,Tryz.ntmps144;go_wp2;have hBx:=Bp w (O11 f.fa1 f.fl f.fc1 f.fa2 f.fm f.fc2) (O31 false aim la xl.length lc sa xs.length sc) (O25 la' yl.length lc' sa' ys.length sc') (O31 true a la' yl.length lc' sa' ys.length sc');refine bodyPost_ret (v:=.tuple #[.agg #[.bool true,.bool a,.slice la' yl.length lc',.slice sa' ys.length sc'],.bool true,.bool true]) (by simp[results,Tryz.results144,go_sem]) rfl ?_;exact⟨⟨la',yl.length,lc',sa',ys.length,sc'⟩,rfl,⟨hm1.below hBx,hm2.below hBx,by simp only;omega,by simp only;omega⟩,hBx⟩
 | true =>
  rw[if_neg (by simp)]at hR;have hl':=hl rfl;have H1:=Ac (fun w' h=>h1 w' h rfl);have H2:=Ac (fun w' h=>h2 w' h rfl);have H3:=Ac h3;have H4:=Ac h4;clear h1 h2 h3 h4 hl;by_cases hs:xs.length≠ys.length
  ·rw[if_pos hs]at hR;subst hR;have hs':((xs.length:Int) != (ys.length:Int))=true:=by simp;omega
   clear H1 H2 H3 H4 hs hl';go_enter Tryz.func144,Tryz.ntmps144;go_wp2;have hBx:=Bp w (O11 f.fa1 f.fl f.fc1 f.fa2 f.fm f.fc2) (O31 true aim la xl.length lc sa xs.length sc) (O25 la' yl.length lc' sa' ys.length sc') (O31 true aim la xl.length lc sa xs.length sc);refine bodyPost_ret (v:=.tuple #[.agg #[.bool true,.bool aim,.slice la xl.length lc,.slice sa xs.length sc],.bool false,.bool false]) (by simp[results,Tryz.results144,go_sem]) rfl ?_;exact⟨⟨la,xl.length,lc,sa,xs.length,sc⟩,rfl,⟨hn1.below hBx,hn2.below hBx,hx5.1,hx5.2⟩,hBx⟩
  ·rw[if_neg hs]at hR;have hsl:xs.length=ys.length:=by simpa using hs
   have hs':((xs.length:Int) != (ys.length:Int))=false:=by simp[hsl]
   have HSL:=Ac hsl;have HR:=Ac hR;have HLL:=Ac hl';clear hs hR hsl hl';go_enter Tryz.func144,Tryz.ntmps144;go_wp2_with fail
   refine(Aa H1 _ hB0).mono ?_;rintro e w1 ⟨ja,jc,rfl,ht1,hb1⟩;have hB1:=QB hB0 hb1;have F1:=stay hb1 F0;have S1:=stay hb1 S0;have Y1:=stay hb1 Y0;have Z1:=stay hb1 Z0;obtain⟨a0,a1⟩:=cl2 F1;have b3:=Ab S1 3;have c1:=Ab Y1 1;have lF:=lt_of_block F1;have lS:=lt_of_block S1;have lY:=lt_of_block Y1;simp at a0 a1 b3 c1;have HJ2:=Ac (Aa H2 _ hB1 (Aa HSL));clear F0 S0 Y0 Z0 hb1 hB0 H1;go_wp2_with fail
   refine(Aa HJ2).mono ?_;rintro e w2 ⟨ka,kc,rfl,ht2,hb2⟩;have hB2:=QB hB1 hb2;have S2:=stay hb2 S1;have Z2:=stay hb2 Z1;have ht1:=ht1.below hb2;have b2:=Ab S2 2;have lS2:=lt_of_block S2;simp at b2;have ez1:(List.zipWith (Tr.joinT T) xl yl).length=xl.length:=Qc (Aa HLL);have ez2:(List.zipWith (Tr.joinT T) xs ys).length=xs.length:=Qc (Aa HSL);have hsm:=Aa H3 (List.zipWith (Tr.joinT T) xl yl) ja jc _ hB2 (by rw[ez1];exact ht1) (by rw[ez1];have:=Aa HLL;omega) (by have:=Aa HLL;omega);rw[ez1]at hsm;have HS3:=Ac hsm;clear hsm;clear a0 a1 b3 c1 lF lS lY hb2 F1 S1 Y1 Z1 HJ2;have HEZ2:=Ac ez2;have HEZ1:=Ac ez1;clear ez1 ez2;go_wp2_with fail
   refine(Aa HS3).mono ?_;rintro e w3 ⟨rfl,hb3⟩;have hB3:=QB hB2 hb3;have S3:=stay hb3 S2;have Z3:=stay hb3 Z2;have ht1':=ht1.below hb3;have ht2':=ht2.below hb3;have b3:=Ab S3 3;have lS3:=lt_of_block S3;simp at b3;have hsm:=Aa H4 (List.zipWith (Tr.joinT T) xs ys) ka kc _ hB3 (by rw[Aa HEZ2];exact ht2') (by rw[Aa HEZ2];have:=Aa HSL;omega) (by have:=Aa HSL;omega);rw[Aa HEZ2]at hsm;have HS4:=Ac hsm;clear hsm b2 lS2 ht1 ht2 hb3 S2 Z2 HS3 hB2;go_wp2_with fail
   refine(Aa HS4).mono ?_;rintro e w4 ⟨rfl,hb4⟩;have hB4:=QB hB3 hb4;have S4:=stay hb4 S3;have Z4:=stay hb4 Z3;have ht1:=ht1'.below hb4;have ht2:=ht2'.below hb4;have b1:=Ab S4 1;have lS4:=lt_of_block S4;obtain⟨z0,z1,z2,z3⟩:=cl4 Z4;obtain⟨q0,q1,q2,q3⟩:=fr4 Z4;have lZ:=lt_of_block Z4;simp at b1 z0 z1 z2 z3;have hr:((⟨true,aim || a,⟨List.zipWith (Tr.joinT T) xl yl,List.zipWith (Tr.joinT T) xs ys⟩⟩:Acm),!(decide (List.zipWith (Tr.joinT T) xl yl=xl)) || !(decide (List.zipWith (Tr.joinT T) xs ys=xs)) || (a && !aim),true)=R:=Aa HR;generalize hX:decide (List.zipWith (Tr.joinT T) xl yl=xl)=X at *;generalize hW:decide (List.zipWith (Tr.joinT T) xs ys=xs)=W at *;have HRR:=Ac hr;clear hr HR hX hW ht1' ht2' hb4 S3 Z3 HS4 hB3 b3 lS3 H2 H3 H4;obtain⟨AA,hAA⟩:∃ AA,(aim || a)=AA:=⟨_,rfl⟩;obtain⟨CC,hCC⟩:∃ CC,(!X || !W || (a && !aim))=CC:=⟨_,rfl⟩;have hr:=Aa HRR;rw[hAA,hCC]at hr;have HR2:=Ac hr;have HAA:=Ac hAA;have HCC:=Ac hCC;clear hr HRR hAA hCC;have k1:=(((Kp.set (b:=0) (i:=0) Z4 (.bool true)).trans (Kp.set (i:=1) (Ai Z4 (.bool true)) (.bool AA))).trans (Kp.set (i:=2) (Ai (Ai Z4 (.bool true)) (.bool AA)) (.slice ja xl.length jc))).trans (Kp.set (i:=3) (Ai (Ai (Ai Z4 (.bool true)) (.bool AA)) (.slice ja xl.length jc)) (.slice ka xs.length kc));have g1:=ht1.kp0 k1 (by decide);have g2:=ht2.kp0 k1 (by decide);have hBx:=(((hB4.setCell (p:=⟨w.heap.size+1+1+1,0,none⟩) (by simp;omega) (.bool true)).setCell (p:=⟨w.heap.size+1+1+1,1,none⟩) (by simp;omega) (.bool AA)).setCell (p:=⟨w.heap.size+1+1+1,2,none⟩) (by simp;omega) (.slice ja xl.length jc)).setCell (p:=⟨w.heap.size+1+1+1,3,none⟩) (by simp;omega) (.slice ka xs.length kc);have HG:=Ac (And.intro g1 (And.intro g2 hBx));clear g1 g2 hBx k1 hB4;cases X<;>cases W<;>cases aim<;>cases a
   all_goals
    go_wp2
    go_region
    go_wp2;have hAA:=Aa HAA;have hCC:=Aa HCC;simp at hAA hCC;refine bodyPost_ret (v:=.tuple #[.agg #[.bool true,.bool AA,.slice ja xl.length jc,.slice ka xs.length kc],.bool CC,.bool true]) (by simp[results,Tryz.results144,go_sem,z0,z1,z2,z3,hAA,hCC]) rfl ?_;obtain⟨g1,g2,hBx⟩:=Aa HG;have hr:=Aa HR2;subst hr;subst hAA hCC;exact⟨⟨ja,xl.length,jc,ka,xs.length,kc⟩,rfl,⟨g1.below (Below.refl _ _).drew,g2.below (Below.refl _ _).drew,by have:=Aa HEZ1;simp only;omega,by have:=Aa HEZ2;simp only;omega⟩,hBx.drew⟩
structure RpC (cs:Array Value) (i:Nat) (v:FrV) (p:Acm):Prop where
 c0:cs[i*4]?=some (.bool p.on)
 c1:cs[i*4+1]?=some (.bool p.aim)
 c2:cs[i*4+2]?=some (.slice v.la v.ln v.lc)
 c3:cs[i*4+3]?=some (.slice v.sa v.sn v.sc)
structure LrAt (w:World) (R G:Nat) (gc:Nat) (s:Z8):Prop where
 blk:w.heap[R]?=some (O32 (some ⟨G,0,none⟩) s.sp.length gc s.ch s.fine)
 spt:∃ cs,w.heap[G]?=some (.cells cs 185 (0,0))∧cs.size=s.sp.length*4∧∀ i,i<s.sp.length→∃ v:FrV,RpC cs i v (s.at i)∧v.is (s.at i).fr w
 ne:R≠G
 len:s.sp.length≤1000
 cap:s.sp.length≤gc∧gc≤1000
theorem LrAt.below {w w':World}{R G gc:Nat}{s:Z8} (h:LrAt w R G gc s) (hb:Below w.heap.size w w'):LrAt w' R G gc s:=by
 obtain⟨cs,h1,h2,h3⟩:=h.spt;exact⟨stay hb h.blk,⟨cs,stay hb h1,h2,fun i hi=>by obtain⟨v,a,c⟩:=h3 i hi;exact⟨v,a,c.below hb⟩⟩,h.ne,h.len,h.cap⟩
theorem LrAt.at {w:World}{R G gc:Nat}{s:Z8} (h:LrAt w R G gc s) {i:Nat} (hi:i<s.sp.length):∃ v:FrV,v.is (s.at i).fr w∧w.cell? ⟨G,i*4,none⟩=some (.bool (s.at i).on)∧w.cell? ⟨G,i*4+1,none⟩=some (.bool (s.at i).aim) ∧
  w.cell? ⟨G,i*4+2,none⟩=some (.slice v.la v.ln v.lc)∧w.cell? ⟨G,i*4+3,none⟩=some (.slice v.sa v.sn v.sc):=by
 obtain⟨cs,h1,h2,h3⟩:=h.spt;obtain⟨v,a,c⟩:=h3 i hi;exact⟨v,c,by rw[Ab h1];exact a.c0,by rw[Ab h1];exact a.c1,by rw[Ab h1];exact a.c2,by rw[Ab h1];exact a.c3⟩
theorem LrAt.free {w:World}{R G gc:Nat}{s:Z8} (h:LrAt w R G gc s) (i:Nat):w.frozen? ⟨G,i,none⟩=false∧G<w.heap.size:=by
 obtain⟨cs,h1,_⟩:=h.spt;exact⟨Ae h1 i,lt_of_block h1⟩
theorem LrAt.mark1 {w:World}{R G gc:Nat}{s:Z8} (h:LrAt w R G gc s) (t:Bool):LrAt (w.setCell ⟨R,1,none⟩ (.bool t)) R G gc ⟨s.sp,t,s.fine⟩∧Lw R G w (w.setCell ⟨R,1,none⟩ (.bool t)):=by
 have k:Lw R G w (w.setCell ⟨R,1,none⟩ (.bool t)):=Lw.set (p:=⟨R,1,none⟩) (.inl rfl) h.blk (by decide) _;obtain⟨cs,h1,h2,h3⟩:=h.spt;refine⟨⟨?_,⟨cs,?_,h2,fun i hi=>?_⟩,h.ne,h.len,h.cap⟩,k⟩
 ·rw[Ai h.blk];rfl
 ·exact(Below.heap_setCell _ _ _ _ (fun e=>h.ne e.symm)).trans h1
 ·obtain⟨v,a,c⟩:=h3 i hi;exact⟨v,a,c.lw k⟩
theorem LrAt.mark2 {w:World}{R G gc:Nat}{s:Z8} (h:LrAt w R G gc s) (t:Bool):LrAt (w.setCell ⟨R,2,none⟩ (.bool t)) R G gc ⟨s.sp,s.ch,t⟩∧Lw R G w (w.setCell ⟨R,2,none⟩ (.bool t)):=by
 have k:Lw R G w (w.setCell ⟨R,2,none⟩ (.bool t)):=Lw.set (p:=⟨R,2,none⟩) (.inl rfl) h.blk (by decide) _;obtain⟨cs,h1,h2,h3⟩:=h.spt;refine⟨⟨?_,⟨cs,?_,h2,fun i hi=>?_⟩,h.ne,h.len,h.cap⟩,k⟩
 ·rw[Ai h.blk];rfl
 ·exact(Below.heap_setCell _ _ _ _ (fun e=>h.ne e.symm)).trans h1
 ·obtain⟨v,a,c⟩:=h3 i hi;exact⟨v,a,c.lw k⟩
theorem LrAt.put {w:World}{R G gc:Nat}{s:Z8} (h:LrAt w R G gc s) {q:Nat} (hq:q<s.sp.length) {p:Acm}{u:FrV} (hu:u.is p.fr w) :
  LrAt ((((w.setCell ⟨G,q*4,none⟩ (.bool p.on)).setCell ⟨G,q*4+1,none⟩ (.bool p.aim)).setCell ⟨G,q*4+2,none⟩ (.slice u.la u.ln u.lc)).setCell ⟨G,q*4+3,none⟩ (.slice u.sa u.sn u.sc)) R G gc ⟨s.sp.set q p,s.ch,s.fine⟩ ∧
  Lw R G w ((((w.setCell ⟨G,q*4,none⟩ (.bool p.on)).setCell ⟨G,q*4+1,none⟩ (.bool p.aim)).setCell ⟨G,q*4+2,none⟩ (.slice u.la u.ln u.lc)).setCell ⟨G,q*4+3,none⟩ (.slice u.sa u.sn u.sc)):=by
 obtain⟨cs,h1,h2,h3⟩:=h.spt;have b1:=Ai (i:=q*4) h1 (.bool p.on);have b2:=Ai (i:=q*4+1) b1 (.bool p.aim);have b3:=Ai (i:=q*4+2) b2 (.slice u.la u.ln u.lc);have b4:=Ai (i:=q*4+3) b3 (.slice u.sa u.sn u.sc);have k:=(((Lw.set (S:=R) (G:=G) (p:=⟨G,q*4,none⟩) (.inr rfl) h1 (by decide) (.bool p.on)).trans (Lw.set (p:=⟨G,q*4+1,none⟩) (.inr rfl) b1 (by decide) (.bool p.aim))).trans (Lw.set (p:=⟨G,q*4+2,none⟩) (.inr rfl) b2 (by decide) (.slice u.la u.ln u.lc))).trans (Lw.set (p:=⟨G,q*4+3,none⟩) (.inr rfl) b3 (by decide) (.slice u.sa u.sn u.sc));have hne:=h.ne;refine⟨⟨?_,⟨_,b4,by simpa using h2,fun i hi=>?_⟩,h.ne,by simpa using h.len,by simpa using h.cap⟩,k⟩
 ·rw[Below.heap_setCell _ _ _ _ (fun e=>hne e),Below.heap_setCell _ _ _ _ (fun e=>hne e),Below.heap_setCell _ _ _ _ (fun e=>hne e),Below.heap_setCell _ _ _ _ (fun e=>hne e)]
  simpa using h.blk
 ·simp only[List.length_set]at hi;rw[Lu s.sp s.ch s.fine hq];by_cases e:i=q
  ·subst e;rw[if_pos rfl];refine⟨u,⟨?_,?_,?_,?_⟩,hu.lw k⟩
   ·rw[Be (by omega),Be (by omega),Be (by omega),Da (by omega)]
   ·rw[Be (by omega),Be (by omega),Da (by simp;omega)]
   ·rw[Be (by omega),Da (by simp;omega)]
   ·rw[Da (by simp;omega)]
  ·rw[if_neg e];obtain⟨v,a,c⟩:=h3 i hi;refine⟨v,⟨?_,?_,?_,?_⟩,c.lw k⟩
   all_goals rw[Be (by omega),Be (by omega),Be (by omega),Be (by omega)]
   ·exact a.c0
   ·exact a.c1
   ·exact a.c2
   ·exact a.c3
theorem Ef {w w':World}{k1 k2 R G o:Nat}{u0 u1 u2 u3 u4 u5 u6 u7 u8:Value} (l1:k1<w.heap.size) (l2:k2<w.heap.size) (l3:R<w.heap.size) (l4:G<w.heap.size)
  (h:w.cell? ⟨k1,0,none⟩=some u0∧w.cell? ⟨k1,1,none⟩=some u1∧w.cell? ⟨k2,0,none⟩=some u2∧w.cell? ⟨k2,1,none⟩=some u3∧w.cell? ⟨R,0,none⟩=some u4∧w.cell? ⟨G,o,none⟩=some u5∧w.cell? ⟨G,o+1,none⟩=some u6∧w.cell? ⟨G,o+2,none⟩=some u7∧w.cell? ⟨G,o+3,none⟩=some u8) (hb:Below w.heap.size w w') :
  w'.cell? ⟨k1,0,none⟩=some u0∧w'.cell? ⟨k1,1,none⟩=some u1∧w'.cell? ⟨k2,0,none⟩=some u2∧w'.cell? ⟨k2,1,none⟩=some u3∧w'.cell? ⟨R,0,none⟩=some u4∧w'.cell? ⟨G,o,none⟩=some u5∧w'.cell? ⟨G,o+1,none⟩=some u6∧w'.cell? ⟨G,o+2,none⟩=some u7∧w'.cell? ⟨G,o+3,none⟩=some u8 :=
 ⟨QC hb l1 h.1,QC hb l1 h.2.1,QC hb l2 h.2.2.1,QC hb l2 h.2.2.2.1,QC hb l3 h.2.2.2.2.1,QC hb l4 h.2.2.2.2.2.1,QC hb l4 h.2.2.2.2.2.2.1,QC hb l4 h.2.2.2.2.2.2.2.1,QC hb l4 h.2.2.2.2.2.2.2.2⟩
theorem Ys (f:RFv) (T:List Int) (W:World) (R G gc:Nat) (s:Z8) (q:Nat) (u:FrV) (y:Zt) (a:Bool) (w:World) (hJ:f.joinsAs T W) (hW:Below W.heap.size W w) (h:LrAt w R G gc s) (hu:u.is y w) (hA:(s.at q).on=true→Aay T (s.at q).fr) (hY:Aay T y) (hl:(s.at q).on=true→(s.at q).fr.locals.length=y.locals.length) (h8:y.locals.length≤1000∧y.stack.length≤1000) (hq:q<s.sp.length) :
  Calls Tryz.prog 104 #[.pointer (some ⟨R,0,none⟩),f.val,.int .i64 (q:Int),u.val,.bool a] w fun e w'=>e=.returned (.tuple #[])∧LrAt w' R G gc (Aa5 T (q:Int) y a s)∧Lw R G w w':=by
 obtain⟨v,hv,-⟩:=h.at hq;generalize hE:Aa5 T (q:Int) y a s=E;unfold Aa5 at hE;rw[Int.toNat_natCast]at hE;have hB0:=Ak w (O11 f.fa1 f.fl f.fc1 f.fa2 f.fm f.fc2) (O25 u.la u.ln u.lc u.sa u.sn u.sc);have F0:=Ah w (O11 f.fa1 f.fl f.fc1 f.fa2 f.fm f.fc2) (O25 u.la u.ln u.lc u.sa u.sn u.sc);have Y0:=Ag w (O11 f.fa1 f.fl f.fc1 f.fa2 f.fm f.fc2) (O25 u.la u.ln u.lc u.sa u.sn u.sc);have L0:=h.below hB0;have hu0:=hu.below hB0;obtain⟨v,hv,g0,g1,g2,g3⟩:=L0.at hq;have hcm:=fun w' (hb:Below ((w.alloc (O11 f.fa1 f.fl f.fc1 f.fa2 f.fm f.fc2)).alloc (O25 u.la u.ln u.lc u.sa u.sn u.sc)).heap.size ((w.alloc (O11 f.fa1 f.fl f.fc1 f.fa2 f.fm f.fc2)).alloc (O25 u.la u.ln u.lc u.sa u.sn u.sc)) w')=>Tv f T (s.at q) v u y a w' (hJ.below (hW.trans ((QB hB0 hb).mono hW.size))) (hv.below hb) (hu0.below hb) hA hY hl h8;generalize hp:s.at q=p at *;generalize Abg T p y a=CM at *;obtain⟨p',c1,c2⟩:=CM;simp only at hcm hE;obtain⟨pon,paim,pfr⟩:=p;obtain⟨on,aim,fr⟩:=p';simp only at g0 g1 g2 g3;simp only[Ae1]at hcm;have lF:=lt_of_block F0;have lY:=lt_of_block Y0;have lR:=lt_of_block L0.blk;have lG:=(L0.free 0).2;have hlen:=h.len;have hcap:=h.cap;have kq:(q:Int)<(s.sp.length:Int):=by omega
 have hRw:R<w.heap.size:=lt_of_block h.blk;have hGw:G<w.heap.size:=(h.free 0).2;have HCM:=Ac hcm;have HE:=Ac hE;clear hcm hE hv hu hu0 hA hY hl hp hJ hW h;obtain⟨fa1,fl,fc1,fa2,fm,fc2⟩:=f;obtain⟨ula,uln,ulc,usa,usn,usc⟩:=u;obtain⟨vla,vln,vlc,vsa,vsn,vsc⟩:=v;simp only[RFv.val,FrV.val]at *;go_enter Tryz.func104,Tryz.ntmps104
 go_upto_region 1 with fail
 generalize (w.alloc (O11 fa1 fl fc1 fa2 fm fc2)).alloc (O25 ula uln ulc usa usn usc)=wz at *;have r0:wz.cell? ⟨R,0,none⟩=some (.slice (some ⟨G,0,none⟩) s.sp.length gc):=Ab L0.blk 0;have f0:wz.cell? ⟨w.heap.size,0,none⟩=some (.slice fa1 fl fc1):=Ab F0 0;have f1:wz.cell? ⟨w.heap.size,1,none⟩=some (.slice fa2 fm fc2):=Ab F0 1;have y0:wz.cell? ⟨w.heap.size+1,0,none⟩=some (.slice ula uln ulc):=Ab Y0 0;have y1:wz.cell? ⟨w.heap.size+1,1,none⟩=some (.slice usa usn usc):=Ab Y0 1;have hx9:wz.drew.cell? ⟨w.heap.size,0,none⟩=some (.slice fa1 fl fc1)∧wz.drew.cell? ⟨w.heap.size,1,none⟩=some (.slice fa2 fm fc2)∧wz.drew.cell? ⟨w.heap.size+1,0,none⟩=some (.slice ula uln ulc)∧wz.drew.cell? ⟨w.heap.size+1,1,none⟩=some (.slice usa usn usc)∧wz.drew.cell? ⟨R,0,none⟩=some (.slice (some ⟨G,0,none⟩) s.sp.length gc)∧wz.drew.cell? ⟨G,q*4,none⟩=some (.bool pon)∧wz.drew.cell? ⟨G,q*4+1,none⟩=some (.bool paim)∧wz.drew.cell? ⟨G,q*4+2,none⟩=some (.slice vla vln vlc)∧wz.drew.cell? ⟨G,q*4+3,none⟩=some (.slice vsa vsn vsc):=⟨f0,f1,y0,y1,r0,g0,g1,g2,g3⟩;have hb1:Below wz.heap.size wz wz.drew:=(Below.refl _ _).drew;have Z0:(wz.alloc (O31 false false none 0 0 none 0 0)).drew.heap[wz.heap.size]?=some (O31 false false none 0 0 none 0 0):=Ad wz _;have hBZ:Below wz.drew.heap.size wz.drew (wz.alloc (O31 false false none 0 0 none 0 0)).drew:=⟨rfl,rfl,rfl,(show wz.heap.size≤(wz.alloc (O31 false false none 0 0 none 0 0)).heap.size by simp),fun k hk=>(((Below.refl _ wz).alloc (Nat.le_refl _) (O31 false false none 0 0 none 0 0)).block k hk)⟩;have lZ:wz.drew.heap.size≤(wz.alloc (O31 false false none 0 0 none 0 0)).drew.heap.size:=hBZ.size;have hBX2:Below wz.heap.size wz (wz.alloc (O31 false false none 0 0 none 0 0)).drew:=hb1.trans hBZ;have lF':w.heap.size<wz.drew.heap.size:=lF;have lY':w.heap.size+1<wz.drew.heap.size:=lY;have lR':R<wz.drew.heap.size:=lR;have lG':G<wz.drew.heap.size:=lG
 go_cut [10,11,12] from 13 to 27 (fun s10 s11 s12 wx=>∃ jb,∃ z:FrV,s10=.pointer (some ⟨jb,0,none⟩)∧s11=.bool c1∧s12=.bool c2∧wx.heap[jb]?=some (O31 on aim z.la z.ln z.lc z.sa z.sn z.sc)∧z.is fr wx∧Below wz.heap.size wz wx∧wz.heap.size≤jb)
 case first =>
  go_wp2
  go_region_held3 (fun w'=>w'.cell? ⟨w.heap.size,0,none⟩=some (.slice fa1 fl fc1)∧w'.cell? ⟨w.heap.size,1,none⟩=some (.slice fa2 fm fc2)∧w'.cell? ⟨w.heap.size+1,0,none⟩=some (.slice ula uln ulc)∧w'.cell? ⟨w.heap.size+1,1,none⟩=some (.slice usa usn usc)∧w'.cell? ⟨R,0,none⟩=some (.slice (some ⟨G,0,none⟩) s.sp.length gc)∧w'.cell? ⟨G,q*4,none⟩=some (.bool pon)∧w'.cell? ⟨G,q*4+1,none⟩=some (.bool paim)∧w'.cell? ⟨G,q*4+2,none⟩=some (.slice vla vln vlc)∧w'.cell? ⟨G,q*4+3,none⟩=some (.slice vsa vsn vsc))
   (first | (with_reducible exact hx9) | (with_reducible exact Ef lF' lY' lR' lG' hx9 hb7) | (with_reducible exact Ef lF' lY' lR' lG' hx9 (hb7.alloc hb7.size _)) | (with_reducible exact Ef lF' lY' lR' lG' hx9 hBZ) | (with_reducible exact Ef lF' lY' lR' lG' hx9 (hBZ.trans (hb7.mono lZ))) | (with_reducible exact Ef lF' lY' lR' lG' hx9 ((hBZ.trans (hb7.mono lZ)).setCell (Nat.le_refl _) _)) | (with_reducible exact Ef lF' lY' lR' lG' hx9 (((hBZ.trans (hb7.mono lZ)).setCell (Nat.le_refl _) _).setCell (Nat.le_refl _) _)) | (with_reducible exact Ef lF' lY' lR' lG' hx9 ((((hBZ.trans (hb7.mono lZ)).setCell (Nat.le_refl _) _).setCell (Nat.le_refl _) _).setCell (Nat.le_refl _) _)) | (with_reducible exact Ef lF' lY' lR' lG' hx9 (((((hBZ.trans (hb7.mono lZ)).setCell (Nat.le_refl _) _).setCell (Nat.le_refl _) _).setCell (Nat.le_refl _) _).setCell (Nat.le_refl _) _)))
   (first | (go_at_call 144;refine(Aa HCM _ (by first | (with_reducible exact hb1) | (with_reducible exact hBX2))).mono ?_;rintro e w7 ⟨z,rfl,hz7,hb7⟩;obtain⟨zla,zln,zlc,zsa,zsn,zsc⟩:=z;try (have Z7:=stay hb7 Z0;have z0':=Ab Z7 0;have z1':=Ab Z7 1;have z2':=Ab Z7 2;have z3':=Ab Z7 3;have q0':=Ae Z7 0;have q1':=Ae Z7 1;have q2':=Ae Z7 2;have q3':=Ae Z7 3;simp at z0' z1' z2' z3')))
  all_goals
   go_wp2
   go_meet
  ·exact⟨_,⟨zla,zln,zlc,zsa,zsn,zsc⟩,rfl,rfl,rfl,Ad w7 _,hz7.below (QN _),(hb1.trans hb7).alloc hb7.size _,hb7.size⟩
  ·have k7:=(((Kp.set (b:=0) (i:=0) Z7 (.bool on)).trans (Kp.set (i:=1) (Ai Z7 (.bool on)) (.bool aim))).trans (Kp.set (i:=2) (Ai (Ai Z7 (.bool on)) (.bool aim)) (.slice zla zln zlc))).trans (Kp.set (i:=3) (Ai (Ai (Ai Z7 (.bool on)) (.bool aim)) (.slice zla zln zlc)) (.slice zsa zsn zsc));exact⟨_,⟨zla,zln,zlc,zsa,zsn,zsc⟩,rfl,rfl,rfl,Ai (Ai (Ai (Ai Z7 _) _) _) _,⟨hz7.lo.kp0 k7 (by decide),hz7.st.kp0 k7 (by decide),hz7.hl,hz7.hs⟩,(((((hb1.trans hBZ).trans (hb7.mono lZ)).setCell (Nat.le_refl _) _).setCell (Nat.le_refl _) _).setCell (Nat.le_refl _) _).setCell (Nat.le_refl _) _,Nat.le_refl _⟩
 case rest =>
  obtain⟨jb,z,rfl,rfl,rfl,JB,hz,hbx,hjb⟩:=hcut;obtain⟨zla,zln,zlc,zsa,zsn,zsc⟩:=z;simp only at JB;have L1:=L0.below hbx;have K1:Lw R G w wc:=Lw.of_below (QB hB0 hbx);clear r0 f0 f1 y0 y1 g0 g1 g2 g3 hx9 hb1 Z0 hBZ lZ hBX2 lF' lY' lR' lG' lF lY L0 F0 Y0 HCM;have lR1:=lt_of_block L1.blk;have lG1:=(L1.free 0).2;obtain⟨v,-,g0,g1,g2,g3⟩:=L1.at hq;have i0:=(L1.free (q*4)).1;have i1:=(L1.free (q*4+1)).1;have i2:=(L1.free (q*4+2)).1;have i3:=(L1.free (q*4+3)).1;have r0:=Ab L1.blk 0;obtain⟨j0,j1,j2,j3⟩:=cl4 JB;have lJ:=lt_of_block JB;simp at r0 j0 j1 j2 j3;obtain⟨L2,K2⟩:=L1.put hq (p:=⟨on,aim,fr⟩) hz;simp only at L2 K2;go_wp2
  go_region
  have hd:=(Below.refl ((((wc.setCell ⟨G,q*4,none⟩ (.bool on)).setCell ⟨G,q*4+1,none⟩ (.bool aim)).setCell ⟨G,q*4+2,none⟩ (.slice zla zln zlc)).setCell ⟨G,q*4+3,none⟩ (.slice zsa zsn zsc)).heap.size ((((wc.setCell ⟨G,q*4,none⟩ (.bool on)).setCell ⟨G,q*4+1,none⟩ (.bool aim)).setCell ⟨G,q*4+2,none⟩ (.slice zla zln zlc)).setCell ⟨G,q*4+3,none⟩ (.slice zsa zsn zsc))).drew;have L3:=L2.below hd;have K3:=K1.trans (K2.trans (Lw.of_below hd));clear g0 g1 g2 g3 i0 i1 i2 i3 r0 j0 j1 j2 j3 lR1 lG1 L2 K2 hd K1 L1 hz JB hbx;generalize ((((wc.setCell ⟨G,q*4,none⟩ (.bool on)).setCell ⟨G,q*4+1,none⟩ (.bool aim)).setCell ⟨G,q*4+2,none⟩ (.slice zla zln zlc)).setCell ⟨G,q*4+3,none⟩ (.slice zsa zsn zsc)).drew=w3 at *;obtain⟨sp,ch,fine⟩:=s;simp only at *;obtain⟨L4,K4⟩:=L3.mark1 (ch || c1);obtain⟨L5,K5⟩:=L4.mark2 (fine&&c2);have K6:=K3.trans (K4.trans K5);have HF:=Ac (And.intro L5 K6);have r1:=Ab L3.blk 1;have r2:=Ab L3.blk 2;have x1:=Ae L3.blk 1;have x2:=Ae L3.blk 2;have lR3:=lt_of_block L3.blk;simp at r1 r2;clear L3 L4 L5 K3 K4 K5 K6;cases ch<;>cases fine
  all_goals
   simp only[Bool.false_or,Bool.true_or,Bool.false_and,Bool.true_and]at HF;go_wp2;obtain⟨L5,K6⟩:=Aa HF;refine bodyPost_end (v:=.tuple #[]) (by simp[results,Tryz.results104,go_sem]) rfl ?_;refine⟨rfl,?_,K6⟩;rw[← Aa HE];exact L5
theorem Nx {E:Zx}{f:RFv}{W:World}{R G gc:Nat}{t:Z8}{q:Int}{u:FrV}{y:Zt}{w:World} (hJ:f.joinsAs E.T W) (hlo:E.lo≤1000) (hhi:E.hi≤1000) (a:Bool) (hW:Below W.heap.size W w) (h:LrAt w R G gc t) (hu:u.is y w) (ht:Ab5 E t∧t.sp.length=E.n) (hy:E.I y) (h0:0≤q) (h1:q<(E.n:Int)) :
  Calls Tryz.prog 104 #[.pointer (some ⟨R,0,none⟩),f.val,.int .i64 q,u.val,.bool a] w fun e w'=>e=.returned (.tuple #[])∧LrAt w' R G gc (Aa5 E.T q y a t)∧Lw R G w w':=by
 obtain⟨n,rfl⟩:∃ n:Nat,q=(n:Int):=⟨q.toNat,by omega⟩;have hi:=hy.hi;exact Ys f E.T W R G gc t n u y a w hJ hW h hu (fun ho=>((ht.1 n).1 ho).arg) hy.arg (fun ho=>((ht.1 n).1 ho).lo.trans hy.lo.symm) ⟨by rw[hy.lo];exact hlo,by omega⟩ (by rw[ht.2];omega)
theorem Ir {w:World}{k1 k2 k3:Nat}{h1 h2 h3 h4:Int}{fa1 fa2 la sa:Option Addr}{fl fc1 fm fc2 ln lc sn sc:Nat} (hF:w.heap[k1]?=some (O11 fa1 fl fc1 fa2 fm fc2)) (hX:w.heap[k2]?=some (O25 la ln lc sa sn sc)) (hH:w.heap[k3]?=some (O16 h1 h2 h3 h4)) :
  w.cell? ⟨k1,0,none⟩=some (.slice fa1 fl fc1)∧w.cell? ⟨k1,1,none⟩=some (.slice fa2 fm fc2)∧w.cell? ⟨k2,0,none⟩=some (.slice la ln lc)∧w.cell? ⟨k3,2,none⟩=some (.int .i64 h3)∧w.cell? ⟨k3,3,none⟩=some (.int .i64 h4) :=
 ⟨by rw[Ab hF];rfl,by rw[Ab hF];rfl,by rw[Ab hX];rfl,by rw[Ab hH];rfl,by rw[Ab hH];rfl⟩
theorem Yr (w:World) (a b:Int):TyR (w.alloc (O7 a b)) (.slice (some ⟨w.heap.size,0,none⟩) 1 1) [(a,b)] :=
 .inr ⟨_,0,1,_,rfl,Ad _ _,by simp,by decide,fun j x hx=>by rw[Nat.zero_add,Ab (Ad _ _)];simpa[Am] using hx⟩
theorem Wy {c:UInt8}{op:Int} (h:(c.toNat:Int)=op) (w:World):Calls Tryz.prog 142 #[.int .i64 (c.toNat:Int)] w fun e w'=>e=.returned (.bool (Aad op))∧Below w.heap.size w w':=by rw[h];exact Ro op w
theorem Xu {c:UInt8}{op:Int} (h:(c.toNat:Int)=op) (w:World):Calls Tryz.prog 140 #[.int .i64 (c.toNat:Int)] w fun e w'=>e=.returned (.bool (Abv op))∧Below w.heap.size w w':=by rw[h];exact Vv op w
theorem Ur {E:Zx} (g:E.Good) (f:RFv) (W:World) (m:RMV) (bb p R G gc:Nat) (s:Z8) (w:World) (hJ:f.joinsAs E.T W) (hW:Below W.heap.size W w) (hR:W.heap.size≤R) (hG:W.heap.size≤G) (hsz:m.code.size=E.n) (h120:E.n≤100000) (hst:m.st=E.hi) (hhl:m.hl=E.hs.length) (hh4:E.hs.length≤1000)
  (hop:(An m.code).getD p 0=E.op p) (har:Rf.at' m.code.data.toList ((p:Int)+1)=E.ar p) (hlo:E.lo≤1000) (hhi:E.hi≤1000)
  (hHs:∀ w',Below W.heap.size W w'→RHndsAt w' bb (.slice m.ha m.hl m.hc) E.hs)
  (hRl:∀ (v:FrV) (x:Zt) w',Below W.heap.size W w'→v.is x w'→E.I x→Calls Tryz.prog 139 #[f.val,m.val,.int .i64 (p:Int),v.val] w' fun e w''=>∃ u:FrV,e=.returned (.tuple #[u.val,.bool (E.rl p x).isSome])∧(∀ z,E.rl p x=some z→u.is z w'')∧Below w'.heap.size w' w'')
  (hp:p∈E.ps) (h:LrAt w R G gc s) (h0:Ab5 E s) (hn:s.sp.length=E.n) (hon:(s.at p).on=true) :
  Calls Tryz.prog 105 #[.pointer (some ⟨R,0,none⟩),f.val,m.val,.int .i64 (p:Int)] w fun e w'=>e=.returned (.tuple #[])∧LrAt w' R G gc (Abm E p s)∧Lw R G w w':=by
 have hpn:=g.lt p hp;have hI:=(h0 p).1 hon;have hx:∃ v:FrV,v.is (s.at p).fr w∧w.cell? ⟨G,p*4+2,none⟩=some (.slice v.la v.ln v.lc)∧w.cell? ⟨G,p*4+3,none⟩=some (.slice v.sa v.sn v.sc):=by
  obtain⟨v,a1,-,-,a2,a3⟩:=h.at (i:=p) (by omega);exact⟨v,a1,a2,a3⟩
 obtain⟨v,hv,g2,g3⟩:=hx;generalize hE:Abm E p s=E';unfold Abm at hE;have hTo:=fun (t:Z8) (q:Int) (u:FrV) (y:Zt) (a:Bool) w' hW' h' hu ht hy h0' h1'=>Nx (t:=t) (q:=q) (u:=u) (y:=y) (w:=w') (R:=R) (G:=G) (gc:=gc) hJ hlo hhi a hW' h' hu ht hy h0' h1';have hToC:=fun (t:Z8) (ht:Ab5 E t∧t.sp.length=E.n) (q:Int) (y:Zt) (a:Bool) (hy:E.I y) (h0':0≤q) (h1':q<(E.n:Int))=>(fun (c:Aa8 E t (Aa5 E.T q y a t) _)=>And.intro c.ok (c.len.trans ht.2)) (Eh g ht.1 ht.2 hy h0' h1' a);have hNx:=fun w'=>Fg m p w' (by omega) (by omega);have hAr:=fun w'=>Er m p w' (by omega) (by omega);rw[har]at hAr;rw[hop]at hNx;have hRy:=fun z (hz:E.rl p (s.at p).fr=some z)=>g.rl p hp _ _ hI hz;have hRule:=fun (v:FrV) w' hw' hv'=>hRl v (s.at p).fr w' hw' hv' hI;generalize (s.at p).fr=x at *;have hCI:=fun h hh h1=>Gj (h:=h) g hI hh h1;have hHd:=g.hnd;have hTg:=g.tgt p hp;have hNt:E.nx p<(E.n:Int)→0≤E.nx p:=fun _=>by unfold Zx.nx;omega
 have hnx:E.nx p=(p:Int)+(Cd.wd (E.op p):Int):=rfl;have hwd:=Cd.wd_bd (E.op p);have hLW:=fun w' (k:Lw R G w w')=>hW.trans ((k.below (B:=W.heap.size) hR hG hW.size));have hcd:∀ h:p<m.code.size,(m.code[p].toNat:Int)=E.op p:=by
  intro hp';rw[← hop,Dx _ _ hp']
 generalize hHR:Aap E.T E.hi (p:Int) x.locals E.hs s=HR at hE;have HHR:Hid (Aap E.T E.hi (p:Int) x.locals (E.hs.drop 0) s=HR):=hHR;have r0:w.cell? ⟨R,0,none⟩=some (.slice (some ⟨G,0,none⟩) s.sp.length gc):=Ab h.blk 0;have hRw:R<w.heap.size:=lt_of_block h.blk;have hGw:G<w.heap.size:=(h.free 0).2;have hlen:=h.len;have hcap:=h.cap;have kp:(p:Int)<(s.sp.length:Int):=by omega
 have kp2:p<m.code.size:=by omega
 obtain⟨fa1,fl,fc1,fa2,fm,fc2⟩:=f;obtain⟨cl,nm,pa,pl,pc,r1,r2,lo,st,code,ha,hl,hc,ma,ml,mc,mAt,fin⟩:=m;obtain⟨la,ln,lc,sa,sn,sc⟩:=v;simp only at hsz hst hhl hHs g2 g3 hcd kp2;have HJP:=Ac (fun w'=>Wy (hcd kp2) w');have HGO:=Ac (fun w'=>Xu (hcd kp2) w');clear hcd;have hwb:wrap64 (code[p].toNat:Int)=(code[p].toNat:Int):=Im _;have hwb2:IntKind.i64.wrap (code[p].toNat:Int)=(code[p].toNat:Int):=Bd _ (by omega) (by have:=code[p].toNat_lt;omega);simp only[RMV.val,RFv.val,FrV.val]at hTo hNx hAr hRule ⊢;have HTO:=Ac hTo;have HTC:=Ac hToC;have HNX:=Ac hNx;have HAR:=Ac hAr;have HRY:=Ac hRy;have HRL:=Ac hRule;have HCI:=Ac hCI;have HHD:=Ac hHd;have HTG:=Ac hTg;have HLW:=Ac hLW;have HHS:=Ac hHs;have HE:=Ac hE;have HOK:=Ac (And.intro h0 hn);subst hhl hst;have hb0:=A8 w (O11 fa1 fl fc1 fa2 fm fc2) (O14 cl nm pa pl pc r1 r2 lo E.hi code ha E.hs.length hc ma ml mc mAt fin) (O25 la ln lc sa sn sc);have C0:=Em w (O11 fa1 fl fc1 fa2 fm fc2) (O14 cl nm pa pl pc r1 r2 lo E.hi code ha E.hs.length hc ma ml mc mAt fin) (O25 la ln lc sa sn sc);have L0:=h.below hb0;have K0:Lw R G w _:=Lw.of_below hb0;have hv0:=hv.lw K0;clear hTo hToC hNx hAr hRy hRl hRule hCI hHd hTg hNt hLW hHs hE h0 hn hJ hHR h hv hon hop har g hI hW hp;go_enter Tryz.func105,Tryz.ntmps105;go_wp2
 go_loopw [9] (fun i wr=>∃ (q:Nat) (t:Z8),q≤E.hs.length∧i=.int .i64 (q:Int)∧Hid (Aap E.T E.hi (p:Int) x.locals (E.hs.drop q) t=HR)∧LrAt wr R G gc t∧Lw R G w wr∧Hid (Ab5 E t∧t.sp.length=E.n)∧wr.heap[w.heap.size]?=some (O11 fa1 fl fc1 fa2 fm fc2)∧wr.heap[w.heap.size+1]?=some (O14 cl nm pa pl pc r1 r2 lo E.hi code ha E.hs.length hc ma ml mc mAt fin)∧wr.heap[w.heap.size+1+1]?=some (O25 la ln lc sa sn sc)∧(⟨la,ln,lc,sa,sn,sc⟩:FrV).is x wr)
  (fun i _=>E.hs.length-(intOf i).toNat)
 case atStart=>exact⟨0,s,by omega,rfl,HHR,L0,K0,HOK,C0.1,C0.2.1,C0.2.2,hv0⟩
 case round =>
  clear HHR L0 K0 HOK C0 hv0 hb0 r0 g2 g3 hlen hcap kp;obtain⟨q,t,hq,rfl,HR1,L1,K1,HOK,CF,CM,CX,hv1⟩:=hrel;have hKs:=K1.size;have lF:=lt_of_block CF;have lM:=lt_of_block CM;have lX:=lt_of_block CX;by_cases hkn:q<E.hs.length
  ·obtain⟨gh,hg,hglt,_,hcell⟩:=Ao (Aa HHS _ (Aa HLW _ K1)) (by omega);have y0:=(hcell _ (Ax E.hs q hkn 0 (by omega)).2).trans (Ax E.hs q hkn 0 (by omega)).1;have y1:=(hcell _ (Ax E.hs q hkn 1 (by omega)).2).trans (Ax E.hs q hkn 1 (by omega)).1;have y2:=(hcell _ (Ax E.hs q hkn 2 (by omega)).2).trans (Ax E.hs q hkn 2 (by omega)).1;have y3:=(hcell _ (Ax E.hs q hkn 3 (by omega)).2).trans (Ax E.hs q hkn 3 (by omega)).1;have hd:E.hs.drop q=E.hs[q]::E.hs.drop (q+1):=List.drop_eq_getElem_cons hkn;have hr:=Aa HR1;rw[hd,Aap]at hr;have hmem:=List.getElem_mem hkn;have hci:=Aa HCI _ hmem;have hhd:=Aa HHD _ hmem;generalize E.hs[q]=hh at *;obtain⟨h1,h2,h3,h4⟩:=hh;simp at y0 y1 y2 y3;simp only[Aao,Aat]at hr hci hhd;have kb:(q:Int)<(E.hs.length:Int):=by omega
   have hbH:Below wr.heap.size wr (wr.alloc (O16 h1 h2 h3 h4)):=QN _;have L2:=L1.below hbH;have K2:=K1.trans (Lw.of_below hbH);have CF2:=stay hbH CF;have CM2:=stay hbH CM;have CX2:=stay hbH CX;have hv2:=hv1.below hbH;have CH2:=Ad wr (O16 h1 h2 h3 h4);have m7:wr.cell? ⟨w.heap.size+1,8,none⟩=some (.slice ha E.hs.length hc):=Ab CM 8;have HCI2:=Ac hci;have HHD2:=Ac hhd;clear hd hcell HR1 hbH hci hhd hmem;subst hg;by_cases c1:h1≤(p:Int)
   ·by_cases c2:(p:Int)<h2
    ·rw[if_pos (by simp[c1,c2])]at hr;have m5:(wr.alloc (O16 h1 h2 h3 h4)).cell? ⟨w.heap.size+1,6,none⟩=some (.int .i64 E.hi):=Ab CM2 6;by_cases c3:E.hi<1
     ·rw[if_pos c3]at hr;obtain⟨L3,K3⟩:=L2.mark2 false;have r1':=Ab L2.blk 2;have x1':=Ae L2.blk 2;have lR:=lt_of_block L2.blk;simp at r1';have HFR:Hid (t.bad=E'):=by unfold Hid;rw[← Aa HE,← hr];rfl
      clear hr;go_wp2;refine bodyPost_ret (v:=.tuple #[]) (by simp[results,Tryz.results105,go_sem]) rfl ?_;refine⟨rfl,?_,K2.trans K3⟩;rw[← Aa HFR];exact L3
     ·rw[if_neg c3]at hr;have HG:Hid (Aap E.T E.hi (p:Int) x.locals (E.hs.drop (q+1)) (Aa5 E.T h3 ⟨x.locals,[(3,h4)]⟩ true t)=HR):=hr;obtain⟨hh0,hh1,-,-⟩:=Aa HHD2;have HO2:=Ac (Aa HTC t (Aa HOK) h3 _ true (Aa HCI2 (by omega)) hh0 hh1);have hz:=fun (w':World) hw' L' hu=>Aa HTO t h3 ⟨la,ln,lc,some ⟨w'.heap.size,0,none⟩,1,1⟩ ⟨x.locals,[(3,h4)]⟩ true (w'.alloc (O7 3 h4)) hw' L' hu (Aa HOK) (Aa HCI2 (by omega)) hh0 hh1;have HZ:=Ac hz;clear hr hz hh0 hh1;have hbd:Below (wr.alloc (O16 h1 h2 h3 h4)).heap.size (wr.alloc (O16 h1 h2 h3 h4)) (wr.alloc (O16 h1 h2 h3 h4)).drew:=(Below.refl _ _).drew;have L3:=L2.below hbd;have K3:=K2.trans (Lw.of_below hbd);have CF3:=stay hbd CF2;have CM3:=stay hbd CM2;have CX3:=stay hbd CX2;have CH3:=stay hbd CH2;have hv3:=hv2.below hbd;have S0:=Ir CF3 CX3 CH3;go_wp2
      go_region_held3 (fun w'=>w'.cell? ⟨w.heap.size,0,none⟩=some (.slice fa1 fl fc1)∧w'.cell? ⟨w.heap.size,1,none⟩=some (.slice fa2 fm fc2)∧w'.cell? ⟨w.heap.size+1+1,0,none⟩=some (.slice la ln lc)∧w'.cell? ⟨wr.heap.size,2,none⟩=some (.int .i64 h3)∧w'.cell? ⟨wr.heap.size,3,none⟩=some (.int .i64 h4))
       (first | (with_reducible exact S0) | (with_reducible exact S5) | (with_reducible exact S6) | (with_reducible exact S7))
       (first | (go_at_call 138;refine(Cr _ _).mono ?_;rintro e w5 ⟨rfl,hb5⟩;have hb6:=hb5.alloc hb5.size (O7 3 h4);have S5:=Ir (stay hb5 CF3) (stay hb5 CX3) (stay hb5 CH3);have S6:=Ir (stay hb6 CF3) (stay hb6 CX3) (stay hb6 CH3);have K6:=K3.trans (Lw.of_below hb6);have hw6:=Aa HLW _ K6) | (go_at_call 104;refine(Aa HZ w5 hw6 (L3.below hb6) ⟨hv3.lo.below hb6,Yr w5 3 h4,hv3.hl,by simp⟩).mono ?_;rintro e w7 ⟨rfl,L7,K7⟩;have CF7:=K7.stay (stay hb6 CF3) (by omega) (by omega);have CX7:=K7.stay (stay hb6 CX3) (by omega) (by omega);have CH7:=K7.stay (stay hb6 CH3) (by omega) (by omega);have CM7:=K7.stay (stay hb6 CM3) (by omega) (by omega);have hv7:=(hv3.below hb6).lw K7;have S7:=Ir CF7 CX7 CH7))
      go_wp2
      go_roundw
      case rel=>exact⟨q+1,_,by omega,by go_num,HG,L7,K6.trans K7,HO2,CF7,CM7,CX7,hv7⟩
      case measure=>simp[intOf];omega
    ·rw[if_neg (by simp[c2])]at hr;have HG:Hid (Aap E.T E.hi (p:Int) x.locals (E.hs.drop (q+1)) t=HR):=hr;clear hr;go_wp2
     go_roundw
     case rel=>exact⟨q+1,t,by omega,by go_num,HG,L2,K2,HOK,CF2,CM2,CX2,hv2⟩
     case measure=>simp[intOf];omega
   ·rw[if_neg (by simp[c1])]at hr;have HG:Hid (Aap E.T E.hi (p:Int) x.locals (E.hs.drop (q+1)) t=HR):=hr;clear hr;go_wp2
    go_roundw
    case rel=>exact⟨q+1,t,by omega,by go_num,HG,L2,K2,HOK,CF2,CM2,CX2,hv2⟩
    case measure=>simp[intOf];omega
  ·have e:(t,true)=HR:=by rw[← Aa HR1,List.drop_eq_nil_of_le (by omega)];rfl
   have HA:Hid (Adw E.T E.n (E.op p) (E.ar p) (E.nx p) (E.rl p x) t=E'):=by unfold Hid;rw[← Aa HE,← e];rfl
   have kb:¬ (q:Int)<(E.hs.length:Int):=by omega
   have HRR:=Ac (Aa HRL ⟨la,ln,lc,sa,sn,sc⟩ wr (Aa HLW _ K1) hv1);obtain⟨m0,m1,m2,m3,m4,m5,m6,m7,m8,m9,m10,m11⟩:=Ap CM;simp at m0 m1 m2 m3 m4 m5 m6 m7 m8 m9 m10 m11;obtain⟨f0,f1⟩:=cl2 CF;simp at f0 f1;obtain⟨x0,x1⟩:=cl2 CX;simp at x0 x1;generalize E.rl p x=RL at *;clear e HR1 HE;cases RL with
   | none =>
    go_wp2_with fail
    refine(Aa HRR).mono ?_;rintro e w2 ⟨u,rfl,-,hb2⟩;obtain⟨ua,un,uc,va,vn,vc⟩:=u;have hb3:=hb2.alloc hb2.size (O25 ua un uc va vn vc);have L3:=L1.below hb3;have K3:=K1.trans (Lw.of_below hb3);obtain⟨L4,K4⟩:=L3.mark2 false;have z2:=Ab L3.blk 2;have z2':=Ae L3.blk 2;have lR3:=lt_of_block L3.blk;simp at z2;go_wp2;refine bodyPost_ret (v:=.tuple #[]) (by simp[results,Tryz.results105,go_sem]) rfl ?_;refine⟨rfl,?_,K3.trans K4⟩;rw[← Aa HA];exact L4
   | some y =>
    have hyI:=Aa HRY y rfl;go_wp2_with fail
    refine(Aa HRR).mono ?_;rintro e w2 ⟨u,rfl,huI,hb2⟩;have hu:=huI y rfl;obtain⟨ua,un,uc,va,vn,vc⟩:=u;have hb3:=hb2.alloc hb2.size (O25 ua un uc va vn vc);have L3:=L1.below hb3;have K3:=K1.trans (Lw.of_below hb3);have CF3:=stay hb3 CF;have CM3:=stay hb3 CM;have CY3:=Ad w2 (O25 ua un uc va vn vc);have hu3:=hu.below (QN (O25 ua un uc va vn vc));have lM2:=lt_of_block (stay hb2 CM);have m7':=Ab (stay hb2 CM) 7;simp at m7';have hlY:wr.heap.size≤w2.heap.size:=hb2.size;clear L1 K1 CF CM CX hu huI hb2 hb3 m0 m1 m2 m3 m4 m5 m6 m7 m8 m9 m10 m11 f0 f1 x0 x1 HRR HRY HRL hv1;go_wp2_with fail
    refine(Aa HJP _).mono ?_;rintro e w4 ⟨rfl,hb4⟩;have L4:=L3.below hb4;have K4:=K3.trans (Lw.of_below hb4);have CF4:=stay hb4 CF3;have CM4:=stay hb4 CM3;have CY4:=stay hb4 CY3;have hu4:=hu3.below hb4;clear hb4 L3 K3 CF3 CM3 CY3 hu3 lM2 m7';cases hJ:Aad (E.op p) with
    | true =>
     obtain⟨ha0,ha1,-⟩:=Aa HTG hJ;have HA6':Hid ((if Abv (E.op p)=false then Aa5 E.T (E.ar p) y true t else if (E.n:Int)≤E.nx p then (Aa5 E.T (E.ar p) y true t).bad else Aa5 E.T (E.nx p) y false (Aa5 E.T (E.ar p) y true t))=E'):=by unfold Hid;rw[← Aa HA];simp[Adw,hJ]
     have HOK6':=Ac (Aa HTC t (Aa HOK) (E.ar p) y true hyI ha0 ha1);obtain⟨m0,m1,m2,m3,m4,m5,m6,m7,m8,m9,m10,m11⟩:=Ap CM4;simp at m0 m1 m2 m3 m4 m5 m6 m7 m8 m9 m10 m11;have lM4:=lt_of_block CM4;go_wp2_with fail
     refine(Aa HAR _).mono ?_;rintro e w5 ⟨rfl,hb5⟩;have L5:=L4.below hb5;have K5:=K4.trans (Lw.of_below hb5);have CF5:=stay hb5 CF4;have CM5:=stay hb5 CM4;have CY5:=stay hb5 CY4;have hu5:=hu4.below hb5;clear hb5 L4 K4 CF4 CM4 CY4 hu4 lM4 m0 m1 m2 m3 m4 m5 m6 m7 m8 m9 m10 m11;have f0:w5.cell? ⟨w.heap.size,0,none⟩=some (.slice fa1 fl fc1):=Ab CF5 0;have f1:w5.cell? ⟨w.heap.size,1,none⟩=some (.slice fa2 fm fc2):=Ab CF5 1;have v0:w5.cell? ⟨w2.heap.size,0,none⟩=some (.slice ua un uc):=Ab CY5 0;have v1:w5.cell? ⟨w2.heap.size,1,none⟩=some (.slice va vn vc):=Ab CY5 1;have lF5:=lt_of_block CF5;have lY5:=lt_of_block CY5;have hto:=Aa HTO t (E.ar p) ⟨ua,un,uc,va,vn,vc⟩ y true w5 (Aa HLW _ K5) L5 hu5 (Aa HOK) hyI ha0 ha1;simp only[FrV.val]at hto;have HTT:=Ac hto;clear hto;go_wp2_with fail
     refine(Aa HTT).mono ?_;rintro e w6 ⟨rfl,L6,K6'⟩;have K6:=K5.trans K6';have CF6:=K6'.stay CF5 (by omega) (by omega);have CM6:=K6'.stay CM5 (by omega) (by omega);have CY6:=K6'.stay CY5 (by omega) (by omega);have hu6:=hu5.lw K6';clear HTT L5 K5 K6' CF5 CM5 CY5 hu5 f0 f1 v0 v1 lF5 lY5 HA;generalize Aa5 E.T (E.ar p) y true t=t6 at *;have HA6:=HA6';have HOK6:=HOK6';clear HA6' HOK6';have lR6:=lt_of_block L6.blk;go_wp2_with fail
     refine(Aa HGO _).mono ?_;rintro e w7 ⟨rfl,hb7⟩;have L7:=L6.below hb7;have K7:=K6.trans (Lw.of_below hb7);have CF7:=stay hb7 CF6;have CM7:=stay hb7 CM6;have CY7:=stay hb7 CY6;have hu7:=hu6.below hb7;clear hb7 L6 K6 CF6 CM6 CY6 hu6 lR6;cases hGo:Abv (E.op p) with
     | false =>
      rw[hGo]at HA6;go_wp2;refine bodyPost_ret (v:=.tuple #[]) (by simp[results,Tryz.results105,go_sem]) rfl ?_;refine⟨rfl,?_,K7⟩;rw[← Aa HA6];exact L7
     | true =>
      rw[hGo]at HA6;obtain⟨m0,m1,m2,m3,m4,m5,m6,m7,m8,m9,m10,m11⟩:=Ap CM7;simp at m0 m1 m2 m3 m4 m5 m6 m7 m8 m9 m10 m11;have lM7:=lt_of_block CM7;go_wp2_with fail
      refine(Aa HNX _).mono ?_;rintro e w8 ⟨rfl,hb8⟩;have L8:=L7.below hb8;have K8:=K7.trans (Lw.of_below hb8);have CF8:=stay hb8 CF7;have CM8:=stay hb8 CM7;have CY8:=stay hb8 CY7;have hu8:=hu7.below hb8;clear hb8 L7 K7 CF7 CM7 CY7 hu7 lM7 m0 m1 m2 m3 m4 m5 m6 m7 m8 m9 m10 m11;have m7:w8.cell? ⟨w.heap.size+1,7,none⟩=some (.string code):=Ab CM8 7;have lM8:=lt_of_block CM8;by_cases c4:(E.n:Int)≤E.nx p
      ·have c4':(code.size:Int)≤(p:Int)+(Cd.wd (E.op p):Int):=by omega
       have c4'':code.size≤p+Cd.wd (E.op p):=by omega
       obtain⟨L9,K9⟩:=L8.mark2 false;have z2:=Ab L8.blk 2;have z2':=Ae L8.blk 2;have lR8:=lt_of_block L8.blk;simp at z2;go_wp2;refine bodyPost_ret (v:=.tuple #[]) (by simp[results,Tryz.results105,go_sem]) rfl ?_;refine⟨rfl,?_,K8.trans K9⟩;rw[← Aa HA6,if_neg (by simp),if_pos c4];exact L9
      ·have c4':¬ (code.size:Int)≤(p:Int)+(Cd.wd (E.op p):Int):=by omega
       have c4'':¬ code.size≤p+Cd.wd (E.op p):=by omega
       have f0:w8.cell? ⟨w.heap.size,0,none⟩=some (.slice fa1 fl fc1):=Ab CF8 0;have f1:w8.cell? ⟨w.heap.size,1,none⟩=some (.slice fa2 fm fc2):=Ab CF8 1;have v0:w8.cell? ⟨w2.heap.size,0,none⟩=some (.slice ua un uc):=Ab CY8 0;have v1:w8.cell? ⟨w2.heap.size,1,none⟩=some (.slice va vn vc):=Ab CY8 1;have lF8:=lt_of_block CF8;have lY8:=lt_of_block CY8;have hto:=Aa HTO t6 (E.nx p) ⟨ua,un,uc,va,vn,vc⟩ y false w8 (Aa HLW _ K8) L8 hu8 (Aa HOK6) hyI (by omega) (by omega);simp only[FrV.val]at hto;rw[hnx]at hto;have HTT:=Ac hto;clear hto;go_wp2_with fail
       refine(Aa HTT).mono ?_;rintro e w9 ⟨rfl,L9,K9⟩;go_wp2;refine bodyPost_end (v:=.tuple #[]) (by simp[results,Tryz.results105,go_sem]) rfl ?_;refine⟨rfl,?_,K8.trans K9⟩;rw[← Aa HA6,if_neg (by simp),if_neg (by omega),hnx];exact L9
    | false =>
     have HA6:Hid ((if Abv (E.op p)=false then t else if (E.n:Int)≤E.nx p then t.bad else Aa5 E.T (E.nx p) y false t)=E'):=by unfold Hid;rw[← Aa HA];simp[Adw,hJ]
     have HOK6:=HOK;have L6:=L4;have K6:=K4;have CF6:=CF4;have CM6:=CM4;have CY6:=CY4;have hu6:=hu4;clear HA HOK L4 K4 CF4 CM4 CY4 hu4;obtain⟨t6,rfl⟩:∃ t6,t6=t:=⟨_,rfl⟩;have lR6:=lt_of_block L6.blk;go_wp2_with fail
     refine(Aa HGO _).mono ?_;rintro e w7 ⟨rfl,hb7⟩;have L7:=L6.below hb7;have K7:=K6.trans (Lw.of_below hb7);have CF7:=stay hb7 CF6;have CM7:=stay hb7 CM6;have CY7:=stay hb7 CY6;have hu7:=hu6.below hb7;clear hb7 L6 K6 CF6 CM6 CY6 hu6 lR6;cases hGo:Abv (E.op p) with
     | false =>
      rw[hGo]at HA6;go_wp2;refine bodyPost_ret (v:=.tuple #[]) (by simp[results,Tryz.results105,go_sem]) rfl ?_;refine⟨rfl,?_,K7⟩;rw[← Aa HA6];exact L7
     | true =>
      rw[hGo]at HA6;obtain⟨m0,m1,m2,m3,m4,m5,m6,m7,m8,m9,m10,m11⟩:=Ap CM7;simp at m0 m1 m2 m3 m4 m5 m6 m7 m8 m9 m10 m11;have lM7:=lt_of_block CM7;go_wp2_with fail
      refine(Aa HNX _).mono ?_;rintro e w8 ⟨rfl,hb8⟩;have L8:=L7.below hb8;have K8:=K7.trans (Lw.of_below hb8);have CF8:=stay hb8 CF7;have CM8:=stay hb8 CM7;have CY8:=stay hb8 CY7;have hu8:=hu7.below hb8;clear hb8 L7 K7 CF7 CM7 CY7 hu7 lM7 m0 m1 m2 m3 m4 m5 m6 m7 m8 m9 m10 m11;have m7:w8.cell? ⟨w.heap.size+1,7,none⟩=some (.string code):=Ab CM8 7;have lM8:=lt_of_block CM8;by_cases c4:(E.n:Int)≤E.nx p
      ·have c4':(code.size:Int)≤(p:Int)+(Cd.wd (E.op p):Int):=by omega
       have c4'':code.size≤p+Cd.wd (E.op p):=by omega
       obtain⟨L9,K9⟩:=L8.mark2 false;have z2:=Ab L8.blk 2;have z2':=Ae L8.blk 2;have lR8:=lt_of_block L8.blk;simp at z2;go_wp2;refine bodyPost_ret (v:=.tuple #[]) (by simp[results,Tryz.results105,go_sem]) rfl ?_;refine⟨rfl,?_,K8.trans K9⟩;rw[← Aa HA6,if_neg (by simp),if_pos c4];exact L9
      ·have c4':¬ (code.size:Int)≤(p:Int)+(Cd.wd (E.op p):Int):=by omega
       have c4'':¬ code.size≤p+Cd.wd (E.op p):=by omega
       have f0:w8.cell? ⟨w.heap.size,0,none⟩=some (.slice fa1 fl fc1):=Ab CF8 0;have f1:w8.cell? ⟨w.heap.size,1,none⟩=some (.slice fa2 fm fc2):=Ab CF8 1;have v0:w8.cell? ⟨w2.heap.size,0,none⟩=some (.slice ua un uc):=Ab CY8 0;have v1:w8.cell? ⟨w2.heap.size,1,none⟩=some (.slice va vn vc):=Ab CY8 1;have lF8:=lt_of_block CF8;have lY8:=lt_of_block CY8;have hto:=Aa HTO t6 (E.nx p) ⟨ua,un,uc,va,vn,vc⟩ y false w8 (Aa HLW _ K8) L8 hu8 (Aa HOK6) hyI (by omega) (by omega);simp only[FrV.val]at hto;rw[hnx]at hto;have HTT:=Ac hto;clear hto;go_wp2_with fail
       refine(Aa HTT).mono ?_;rintro e w9 ⟨rfl,L9,K9⟩;go_wp2;refine bodyPost_end (v:=.tuple #[]) (by simp[results,Tryz.results105,go_sem]) rfl ?_;refine⟨rfl,?_,K8.trans K9⟩;rw[← Aa HA6,if_neg (by simp),if_neg (by omega),hnx];exact L9
theorem Tryz.infoRSpot:(Tryz.prog.info? 185).map (fun i=>(i.zero,i.size,i.bytes))=some (some (.agg #[.bool false,.bool false,.slice none 0 0,.slice none 0 0]),4,56):=by kernel_rfl
def Aea (n:Nat):Array Value:=madeCells (Value.agg #[.bool false,.bool false,.slice none 0 0,.slice none 0 0]).cells (n*4)
theorem T5 (n:Nat) (hn:n≤1000) (w:World):(Instr.makeSlice 122 (.int .i64 (n:Int)) (.int .i64 (n:Int))).run Tryz.prog w=.ok (.slice (some ⟨w.heap.size,0,none⟩) n n) (w.alloc (.cells (Aea n) 185)):=by
 obtain⟨i0,hi,hz0,hz1,hz2⟩:=info_parts Tryz.infoRSpot;have:=run_make w 122 185 i0 _ Tryz.underlying122 hi hz0 .i64 .i64 (n:Int) (n:Int) (by omega) (Int.le_refl _) (by rw[hz2];omega) (by omega);rw[hz1]at this
 simpa[Aea] using this
theorem Xa (n:Nat):(Aea n).size=n*4:=by simp[Aea,madeCells]
theorem J9 (n i j:Nat) (hi:i<n) (hj:j<4):(Aea n)[i*4+j]?=(#[.bool false,.bool false,.slice none 0 0,.slice none 0 0]:Array Value)[j]?:=by
 have hl:i*4+j<n*4:=by omega
 have hm:(i*4+j) % 4=j:=by omega
 unfold Aea madeCells;have hj':j=0∨j=1∨j=2∨j=3:=by omega
 rcases hj' with rfl|rfl|rfl|rfl
 all_goals
  simp only[Value.cells,Array.getElem?_map];rw[Array.getElem?_eq_getElem (by simpa using hl)];simp[hm]
theorem LrAt.made {w:World}{R G:Nat}{n:Nat} (h1:w.heap[R]?=some (O32 (some ⟨G,0,none⟩) n n false true)) (h2:w.heap[G]?=some (.cells (Aea n) 185 (0,0))) (hne:R≠G) (hn:n≤1000):LrAt w R G n ⟨List.replicate n Ady,false,true⟩:=by
 refine⟨by simpa using h1,⟨_,h2,by simpa using Xa n,fun i hi=>?_⟩,hne,by simpa using hn,by simp;omega⟩;have hi':i<n:=by simpa using hi
 have e:(⟨List.replicate n Ady,false,true⟩:Z8).at i=Ady:=by
  unfold Z8.at;rw[List.getD_eq_getElem?_getD,List.getElem?_replicate,if_pos hi'];rfl
 rw[e];exact⟨⟨none,0,0,none,0,0⟩,⟨J9 n i 0 hi' (by omega),J9 n i 1 hi' (by omega),J9 n i 2 hi' (by omega),J9 n i 3 hi' (by omega)⟩,⟨TyR.nil _,TyR.nil _,Nat.zero_le _,Nat.zero_le _⟩⟩
theorem Rw {E:Zx} (g:E.Good) (f:RFv) (m:RMV) (bb:Nat) (w:World) (hJ:f.joinsAs E.T w) (hsz:m.code.size=E.n) (h120:E.n≤1000) (hst:m.st=E.hi) (hhl:m.hl=E.hs.length) (hh4:E.hs.length≤1000)
  (hop:∀ p,(An m.code).getD p 0=E.op p) (har:∀ p:Nat,Rf.at' m.code.data.toList ((p:Int)+1)=E.ar p) (hlo:E.lo≤1000) (hhi:E.hi≤1000) (hps:E.ps=Cd.places (An m.code))
  (hHs:∀ w',Below w.heap.size w w'→RHndsAt w' bb (.slice m.ha m.hl m.hc) E.hs)
  (hSt:∀ w',Below w.heap.size w w'→Calls Tryz.prog 98 #[m.val] w' fun e w''=>∃ u:FrV,e=.returned u.val∧u.is E.x0 w''∧Below w'.heap.size w' w'')
  (hRl:∀ p∈E.ps,∀ (v:FrV) (x:Zt) w',Below w.heap.size w w'→v.is x w'→E.I x→Calls Tryz.prog 139 #[f.val,m.val,.int .i64 (p:Int),v.val] w' fun e w''=>∃ u:FrV,e=.returned (.tuple #[u.val,.bool (E.rl p x).isSome])∧(∀ z,E.rl p x=some z→u.is z w'')∧Below w'.heap.size w' w'') :
  Calls Tryz.prog 64 #[f.val,m.val] w fun e w'=>∃ a n c,e=.returned (.tuple #[.slice a n c,.bool (Acg E 31219).isSome])∧(∀ t,Acg E 31219=some t→∃ R G,a=some ⟨G,0,none⟩∧n=E.n∧c=E.n∧LrAt w' R G E.n t)∧Below w.heap.size w w':=by
 have hFr:=fun (p R G:Nat) (s:Z8) w' (hW:Below w.heap.size w w') hR hG (hp:p∈E.ps) hL (h0:Ab5 E s∧s.sp.length=E.n) hon=>Ur g f w m bb p R G E.n s w' hJ hW hR hG hsz (by omega) hst hhl hh4 (hop p) (har p) hlo hhi hHs (hRl p hp) hp hL h0.1 h0.2 hon;have hFC:=fun (p:Nat) (hp:p∈E.ps) (s:Z8) (h0:Ab5 E s∧s.sp.length=E.n) hon=>(fun (c:Aa8 E s (Abm E p s) _)=>And.intro c.ok (c.len.trans h0.2)) (If g hp h0.1 h0.2 hon).1;have hz:0<E.n:=g.lt 0 g.zero;have il:(Abs E).sp.length=E.n:=by simp[Abs]
 have hTo:=fun (R G:Nat) (u:FrV) w' hW hL hu=>Nx (t:=Abs E) (q:=0) (u:=u) (y:=E.x0) (w:=w') (R:=R) (G:=G) (gc:=E.n) hJ hlo hhi false hW hL hu ⟨Hw E,il⟩ g.x0 (by omega) (by omega);have h00:=(fun (c:Aa8 E (Abs E) (Aa5 E.T 0 E.x0 false (Abs E)) _)=>And.intro c.ok (c.len.trans il)) (Eh g (Hw E) il g.x0 (q:=0) (by omega) (by omega) false);have hNx:=fun p w' hp=>Fg m p w' hp (by omega);simp only[hop]at hNx;have hD:([]:List Nat)++Cd.starts (An m.code) (An m.code).length 0=Cd.places (An m.code):=rfl;have hnl:=Cq m.code;have hcop:∀ p,(An m.code).getD p 0=E.op p:=hop;generalize An m.code=c at *;generalize hfd:Acg E 31219=FD;unfold Acg at hfd;unfold Abs at hTo h00 hfd;generalize hs0:Aa5 E.T 0 E.x0 false ⟨List.replicate E.n Ady,false,true⟩=s0 at *;have hmk:=fun w'=>T5 E.n h120 w';obtain⟨fa1,fl,fc1,fa2,fm,fc2⟩:=f;obtain⟨cl,nm,pa,pl,pc,r1,r2,lo,st,code,ha,hl,hc,ma,ml,mc,mAt,fin⟩:=m;simp only at hsz hst hhl hHs hmk hnl;simp only[RMV.val,RFv.val,FrV.val]at hFr hTo hSt hNx ⊢;have HFR:=Ac hFr;have HFC:=Ac hFC;have HTO:=Ac hTo;have HNX:=Ac hNx;have HST:=Ac hSt;have HPS:=Ac hps;have HFD:Hid (Ac3 E (31218+1) s0=FD):=hfd;have H00:=Ac h00;have HD:=Ac hD;have HCO:=Ac hcop;clear hFr hFC hTo hNx hSt hps hfd h00 hD hcop hRl hHs hJ hop har g il hs0 hst hhl;have hB0:=Bp w (O11 fa1 fl fc1 fa2 fm fc2) (O14 cl nm pa pl pc r1 r2 lo st code ha hl hc ma ml mc mAt fin) (.cells (Aea E.n) 185) (O32 (some ⟨w.heap.size+1+1,0,none⟩) E.n E.n false true);obtain⟨F0,M0,G0,R0⟩:=Bf w (O11 fa1 fl fc1 fa2 fm fc2) (O14 cl nm pa pl pc r1 r2 lo st code ha hl hc ma ml mc mAt fin) (.cells (Aea E.n) 185) (O32 (some ⟨w.heap.size+1+1,0,none⟩) E.n E.n false true);have L0:=LrAt.made R0 G0 (by omega) h120;clear R0 G0;go_enter Tryz.func64,Tryz.ntmps64;go_wp2_with fail
 refine(Aa HST _ hB0).mono ?_;rintro e w2 ⟨u,rfl,hu,hb2⟩;obtain⟨ua,un,uc,va,vn,vc⟩:=u;have hb3:=hb2.alloc hb2.size (O25 ua un uc va vn vc);have hB3:=QB hB0 hb3;have L3:=L0.below hb3;have F3:=stay hb3 F0;have M3:=stay hb3 M0;have hu3:=hu.below (QN (O25 ua un uc va vn vc));have f0:w2.cell? ⟨w.heap.size,0,none⟩=some (.slice fa1 fl fc1):=Ab (stay hb2 F0) 0;have f1:w2.cell? ⟨w.heap.size,1,none⟩=some (.slice fa2 fm fc2):=Ab (stay hb2 F0) 1;have lF:=lt_of_block (stay hb2 F0);have HT3:=Ac (Aa HTO _ _ ⟨ua,un,uc,va,vn,vc⟩ _ hB3 L3 hu3);clear L0 F0 M0 hu hb2 hB0 HST HTO hmk;go_wp2_with fail
 refine(Aa HT3).mono ?_;rintro e w4 ⟨rfl,L4,K4⟩;have hB4:=hB3.trans (K4.below (by omega) (by omega) hB3.size);have F4:=K4.stay F3 (by omega) (by omega);have M4:=K4.stay M3 (by omega) (by omega);clear HT3 L3 F3 M3 hu3 hb3 hB3 K4 f0 f1 lF;go_wp2
 go_loopw [8] (fun s8 wr=>∃ (k K:Nat) (t:Z8),s8=.int .i64 (k:Int)∧k+K=31219∧Hid (Ac3 E K t=FD)∧LrAt wr (w.heap.size+1+1+1) (w.heap.size+1+1) E.n t∧Hid (Ab5 E t∧t.sp.length=E.n)∧Below w.heap.size w wr∧wr.heap[w.heap.size]?=some (O11 fa1 fl fc1 fa2 fm fc2)∧wr.heap[w.heap.size+1]?=some (O14 cl nm pa pl pc r1 r2 lo st code ha hl hc ma ml mc mAt fin))
  (fun v _=>31219-(intOf v).toNat)
 case atStart=>exact⟨0,31219,s0,rfl,rfl,HFD,L4,H00,hB4,F4,M4⟩
 case round =>
  clear HFD L4 H00 hB4 F4 M4;obtain⟨k,K,t,rfl,hkK,HRs,L1,HOK,hB,CF,CM⟩:=hrel;have hBs:=hB.size;have lF:=lt_of_block CF;have lM:=lt_of_block CM;have lR:=lt_of_block L1.blk;by_cases hk:k<31219
  ·obtain⟨K',rfl⟩:∃ K',K=K'+1:=⟨K-1,by omega⟩;have kb:(k:Int)<31219:=by omega
   have hrs:=Aa HRs;rw[Ac3,Aa HPS]at hrs;generalize hRR:Ab9 E (Cd.places c) t.calm=RR at hrs;have HRS:=Ac hrs;obtain⟨L2,K2⟩:=L1.mark1 false;have hB2:=hB.trans (K2.below (by omega) (by omega) hB.size);have CF2:=K2.stay CF (by omega) (by omega);have CM2:=K2.stay CM (by omega) (by omega);have HO2:Hid (Ab5 E t.calm∧t.calm.sp.length=E.n):=Aa HOK;have HIN:Hid (Ab9 E (Cd.starts c c.length 0) t.calm=RR):=hRR;have z1:=Ab L1.blk 1;have z1':=Ae L1.blk 1;simp at z1;clear hrs hRR HRs HOK;go_wp2;clear z1 z1' L1 K2 hB hBs CF CM lF lM lR
   go_loopw [9] (fun s9 wq=>∃ (p j:Nat) (d:List Nat) (t:Z8),s9=.int .i64 (p:Int)∧p≤200000∧c.length≤p+j∧Hid (d++Cd.starts c j p=Cd.places c)∧Hid (Ab9 E (Cd.starts c j p) t=RR)∧LrAt wq (w.heap.size+1+1+1) (w.heap.size+1+1) E.n t∧Hid (Ab5 E t∧t.sp.length=E.n)∧Below w.heap.size w wq∧wq.heap[w.heap.size]?=some (O11 fa1 fl fc1 fa2 fm fc2)∧wq.heap[w.heap.size+1]?=some (O14 cl nm pa pl pc r1 r2 lo st code ha hl hc ma ml mc mAt fin))
    (fun v _=>c.length-(intOf v).toNat)
   case atStart=>exact⟨0,c.length,[],t.calm,rfl,by omega,by omega,HD,HIN,L2,HO2,hB2,CF2,CM2⟩
   case round =>
    clear L2 HO2 hB2 CF2 CM2 HIN;obtain⟨p,j,d,t',rfl,hp2,hj,HDD,HIN,L1,HOK,hB,CF,CM⟩:=hrel;have hBs:=hB.size;have lF:=lt_of_block CF;have lM:=lt_of_block CM;have lR:=lt_of_block L1.blk;obtain⟨m0,m1,m2,m3,m4,m5,m6,m7,m8,m9,m10,m11⟩:=Ap CM;simp at m0 m1 m2 m3 m4 m5 m6 m7 m8 m9 m10 m11;by_cases hpq:p<c.length
    ·have hpn:p<E.n:=by omega
     have hpl:(p:Int)<(E.n:Int):=by omega
     obtain⟨j,rfl,hj',hst⟩:=Cd.starts_go (c:=c) (k:=j) (p:=p) hpq hj;have hd:=Aa HDD;have hr:=Aa HIN;rw[hst]at hr hd;have hmem:p∈E.ps:=by rw[Aa HPS,← hd];simp
     rw[Aa HCO p]at hr hd hj';have HDJ:Hid ((d++[p])++Cd.starts c j (p+Cd.wd (E.op p))=Cd.places c):=by unfold Hid;rw[← hd];simp
     have hwd:=Cd.wd_bd (E.op p);rw[Ab9]at hr;have hnx:=fun w'=>Aa HNX p w' (by omega);generalize Cd.wd (E.op p)=wdp at *;have hlt:t'.sp.length=E.n:=(Aa HOK).2;obtain⟨v,-,z0,-⟩:=L1.at (i:=p) (by omega);have r0:wr.cell? ⟨w.heap.size+1+1+1,0,none⟩=some (.slice (some ⟨w.heap.size+1+1,0,none⟩) E.n E.n):=(Ab L1.blk 0).trans (by simp[hlt]);have lG:=(L1.free 0).2;have HNXP:=Ac hnx;clear hnx hst hd HDD HIN;cases hon:(t'.at p).on with
     | false =>
      rw[hon]at z0 hr;rw[if_neg (by simp)]at hr;have HG:=Ac hr;clear hr;go_wp2_with fail
      refine(Aa HNXP _).mono ?_;rintro e w3 ⟨rfl,hb3⟩;have L3:=L1.below hb3;have hB3:=hB.trans (hb3.mono hBs);have CF3:=stay hb3 CF;have CM3:=stay hb3 CM;clear hb3 L1 hB CF CM m0 m1 m2 m3 m4 m5 m6 m7 m8 m9 m10 m11 z0 r0 lF lM lR lG;go_wp2
      go_roundw
      case rel=>exact⟨p+wdp,j,d++[p],t',rfl,by omega,by omega,HDJ,HG,L3,HOK,hB3,CF3,CM3⟩
      case measure=>simp[intOf];omega
     | true =>
      rw[hon]at z0 hr;rw[if_pos rfl]at hr;have f0:wr.cell? ⟨w.heap.size,0,none⟩=some (.slice fa1 fl fc1):=Ab CF 0;have f1:wr.cell? ⟨w.heap.size,1,none⟩=some (.slice fa2 fm fc2):=Ab CF 1;have HFP:=Ac (Aa HFR p _ _ t' wr hB (by omega) (by omega) hmem L1 (Aa HOK) hon);have HO3:=Ac (Aa HFC p hmem t' (Aa HOK) hon);have HRR:=Ac hr;clear hr;go_wp2_with fail
      refine(Aa HFP).mono ?_;rintro e w3 ⟨rfl,L3,K3⟩;have hB3:=hB.trans (K3.below (by omega) (by omega) hB.size);have CF3:=K3.stay CF (by omega) (by omega);have CM3:=K3.stay CM (by omega) (by omega);clear K3 L1 hB CF CM m0 m1 m2 m3 m4 m5 m6 m7 m8 m9 m10 m11 z0 r0 lF lM lR lG f0 f1 HFP HOK;generalize Abm E p t'=t3 at *;have z2:=Ab L3.blk 2;have lR:=lt_of_block L3.blk;have lM:=lt_of_block CM3;simp at z2;cases hfi:t3.fine with
      | false =>
       rw[hfi]at z2;have e0:none=RR:=by rw[← Aa HRR,hfi,if_pos rfl]
       have e1:none=FD:=by rw[← Aa HRS,← e0]
       clear HRR HRS;go_wp2;go_ret2;refine⟨none,0,0,?_,fun t ht=>?_,hB3⟩
       ·rw[← e1];rfl
       ·rw[← e1]at ht;cases ht
      | true =>
       rw[hfi]at z2;have HG:Hid (Ab9 E (Cd.starts c j (p+wdp)) t3=RR):=by unfold Hid;rw[← Aa HRR,hfi,if_neg (by simp)]
       obtain⟨m0,m1,m2,m3,m4,m5,m6,m7,m8,m9,m10,m11⟩:=Ap CM3;simp at m0 m1 m2 m3 m4 m5 m6 m7 m8 m9 m10 m11;go_wp2_with fail
       refine(Aa HNXP _).mono ?_;rintro e w5 ⟨rfl,hb5⟩;have L5:=L3.below hb5;have hB5:=QB hB3 hb5;have CF5:=stay hb5 CF3;have CM5:=stay hb5 CM3;clear hb5 L3 hB3 CF3 CM3 m0 m1 m2 m3 m4 m5 m6 m7 m8 m9 m10 m11 z2 lR lM HRR;go_wp2
       go_roundw
       case rel=>exact⟨p+wdp,j,d++[p],t3,rfl,by omega,by omega,HDJ,HG,L5,HO3,hB5,CF5,CM5⟩
       case measure=>simp[intOf];omega
    ·have hpl:¬ (p:Int)<(E.n:Int):=by omega
     have e0:Cd.starts c j p=[]:=by
      cases j with
      | zero=>rfl
      | succ j=>rw[Cd.starts,if_neg hpq]
     have e1:some t'=RR:=by rw[← Aa HIN,e0];rfl
     have hlt:t'.sp.length=E.n:=(Aa HOK).2;have r0:wr.cell? ⟨w.heap.size+1+1+1,0,none⟩=some (.slice (some ⟨w.heap.size+1+1,0,none⟩) E.n E.n):=(Ab L1.blk 0).trans (by simp[hlt]);have z1:=Ab L1.blk 1;simp at z1;have hrs:=Aa HRS;rw[← e1]at hrs;simp only at hrs;cases hch:t'.ch with
     | false =>
      rw[hch]at z1;rw[hch,if_pos rfl]at hrs;clear HIN HRS;go_wp2;go_ret2;refine⟨some ⟨w.heap.size+1+1,0,none⟩,E.n,E.n,?_,fun t ht=>?_,hB⟩
      ·rw[← hrs];rfl
      ·rw[← hrs]at ht;cases ht;exact⟨_,_,rfl,rfl,rfl,L1⟩
     | true =>
      rw[hch]at z1;rw[hch,if_neg (by simp)]at hrs;have HG:=Ac hrs;clear hrs HIN HRS;go_wp2
      go_roundw
      case rel=>exact⟨k+1,K',t',by go_num,by omega,HG,L1,HOK,hB,CF,CM⟩
      case measure=>simp[intOf];omega
  ·obtain rfl:K=0:=by omega
   have kb:¬ (k:Int)<31219:=by omega
   have hrs:=Aa HRs;rw[Ac3]at hrs;have hlt:t.sp.length=E.n:=(Aa HOK).2;have r0:wr.cell? ⟨w.heap.size+1+1+1,0,none⟩=some (.slice (some ⟨w.heap.size+1+1,0,none⟩) E.n E.n):=(Ab L1.blk 0).trans (by simp[hlt]);clear HRs;go_wp2;go_ret2;refine⟨some ⟨w.heap.size+1+1,0,none⟩,E.n,E.n,?_,fun t ht=>?_,hB⟩
   ·rw[← hrs];rfl
   ·rw[← hrs]at ht;cases ht;exact⟨_,_,rfl,rfl,rfl,L1⟩
end Go.Proofs.YtcefiamkoincoaaGreat
