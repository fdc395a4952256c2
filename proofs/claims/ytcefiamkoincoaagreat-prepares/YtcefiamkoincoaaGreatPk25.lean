/- a part of the proof -/
import Derived.Test.YtcefiamkoincoaaGreatPk24
set_option maxRecDepth 100000
set_option maxHeartbeats 40000000
set_option linter.unusedVariables false
set_option linter.unusedSimpArgs false
namespace Go.Proofs.YtcefiamkoincoaaGreat
open Go.RowKit
abbrev Aab:Obj:=.cells #[.slice none 0 0,.slice none 0 0,.int .i64 0,.int .i64 0,.slice none 0 0,.int .i64 0,.int .i64 0,.int .i64 0,.int .i64 0,.slice none 0 0,.slice none 0 0,.slice none 0 0,.slice none 0 0,.slice none 0 0,.slice none 0 0,.slice none 0 0,.slice none 0 0,.int .i64 0,.int .i64 0,.slice none 0 0,.int .i64 0,.int .i64 0,.int .i64 0,.int .i64 0,.slice none 0 0,.slice none 0 0,.slice none 0 0,.slice none 0 0,.slice none 0 0,.bool false] 149
theorem Tryz.infoSearch:(Tryz.prog.info? 149).map (·.size)=some 30:=by kernel_rfl
theorem Fk {w:World}{k:Nat}{cs cs':Array Value}{t t':TypeId} (h:w.heap[k]?=some (.cells cs t (0,0))) (h':w.heap[k]?=some (.cells cs' t' (0,0))) (hne:t≠t'):False:=by
 rw[h]at h';simp only[Option.some.injEq,Obj.cells.injEq]at h';exact hne h'.2.1
theorem Ia {w w':World}{S G:Nat}{b:PBd}{gc:Nat}{s:Zv}{bb size m:Nat}{t:TypeId}{v:Value}{xs:List Value} (h:w.ownsRow bb t size v m xs) (hl:LsAt w S G b gc s) (hk:Lw S G w w') (h1:t≠149) (h2:t≠212):w'.ownsRow bb t size v m xs:=by
 obtain⟨e1,e2|⟨g,cap,cur,a,c,d,r⟩⟩:=h
 ·exact⟨e1,.inl e2⟩
 ·obtain⟨cs,hG,_⟩:=hl.spt;exact⟨e1,.inr ⟨g,cap,cur,a,c,hk.stay d (fun e=>by subst e;exact Fk d hl.blk h1) (fun e=>by subst e;exact Fk d hG h2),r⟩⟩
theorem TyR.uniq {w:World}{a:Option Addr}{n c:Nat}{l l':List (Int × Int)} (h:TyR w (.slice a n c) l) (h':TyR w (.slice a n c) l'):l=l':=by
 obtain⟨e1,-,-⟩:=h.cap;obtain⟨e2,-,-⟩:=h'.cap;have el:l.length=l'.length:=by omega
 by_cases hz:l.length=0
 ·rw[List.eq_nil_of_length_eq_zero hz,List.eq_nil_of_length_eq_zero (l:=l') (by omega)]
 ·obtain⟨g,o,ha,_,hat⟩:=h.at (by omega);obtain⟨g',o',ha',_,hat'⟩:=h'.at (by omega);rw[ha]at ha';simp only[Option.some.injEq,Addr.mk.injEq,and_true]at ha';obtain⟨rfl,rfl⟩:=ha';refine List.ext_getElem el (fun i h1 h2=>?_);obtain⟨x0,x1⟩:=hat i h1;obtain⟨y0,y1⟩:=hat' i h2;rw[x0]at y0;rw[x1]at y1;simp only[Option.some.injEq,Value.int.injEq,true_and]at y0 y1;exact Prod.ext y0 y1
theorem LsAt.uniq {w:World}{S G:Nat}{b:PBd}{gc:Nat}{s s':Zv} (h:LsAt w S G b gc s) (h':LsAt w S G b gc s'):s=s':=by
 have e:=h.blk.symm.trans h'.blk;simp only[Option.some.injEq,Obj.cells.injEq,Array.mk.injEq,List.cons.injEq,Value.slice.injEq,Value.bool.injEq,true_and,and_true]at e;obtain⟨el,eh⟩:=e;obtain⟨sp,hop⟩:=s;obtain⟨sp',hop'⟩:=s';simp only at el eh;subst eh
 congr 1
 refine List.ext_getElem el (fun i h1 h2=>?_);obtain⟨v,hv,x0,x1,x2,x3,x4⟩:=h.at (i:=i) h1;obtain⟨v',hv',y0,y1,y2,y3,y4⟩:=h'.at (i:=i) h2;have a1:(⟨sp,hop⟩:Zv).at i=sp[i]:=by unfold Zv.at;rw[List.getD_eq_getElem?_getD,List.getElem?_eq_getElem h1];rfl
 have a2:(⟨sp',hop⟩:Zv).at i=sp'[i]:=by unfold Zv.at;rw[List.getD_eq_getElem?_getD,List.getElem?_eq_getElem h2];rfl
 rw[a1]at hv x2 x3 x4;rw[a2]at hv' y2 y3 y4;rw[x0]at y0;rw[x1]at y1;rw[x2]at y2;rw[x3]at y3;rw[x4]at y4;simp only[Option.some.injEq,Value.slice.injEq,Value.bool.injEq]at y0 y1 y2 y3 y4;obtain⟨la,ln,lc,sa,sn,sc⟩:=v;obtain⟨la',ln',lc',sa',sn',sc'⟩:=v';simp only at y0 y1;obtain⟨rfl,rfl,rfl⟩:=y0;obtain⟨rfl,rfl,rfl⟩:=y1;have l1:=hv.lo.uniq hv'.lo;have l2:=hv.st.uniq hv'.st;generalize sp[i]=p at *;generalize sp'[i]=p' at *;obtain⟨⟨pl,ps⟩,a,c,d⟩:=p;obtain⟨⟨pl',ps'⟩,a',c',d'⟩:=p';simp only at l1 l2 y2 y3 y4;subst l1 l2 y2 y3 y4;rfl
theorem Afd (mu:Zv→Nat) (S G:Nat) (b:PBd) (gc:Nat):∃ M:Value→World→Nat,(∀ w t,LsAt w S G b gc t→M (.bool true) w=mu t+1)∧∀ w,M (.bool false) w=0:=by
 have dec:∀ (v:Value) (w:World),∃ n:Nat,(∀ t,LsAt w S G b gc t→v=.bool true→n=mu t+1)∧(v=.bool false→n=0):=fun v w=>by
  by_cases hv:v=.bool true
  ·by_cases h:∃ t,LsAt w S G b gc t
   ·obtain⟨t,ht⟩:=h;exact⟨mu t+1,fun t' ht' _=>by rw[ht.uniq ht'],fun e=>by rw[hv]at e;simp at e⟩
   ·exact⟨0,fun t ht _=>absurd ⟨t,ht⟩ h,fun _=>rfl⟩
  ·exact⟨0,fun _ _ e=>absurd e hv,fun _=>rfl⟩
 exact⟨fun v w=>Classical.choose (dec v w),fun w t ht=>(Classical.choose_spec (dec (.bool true) w)).1 t ht rfl,fun w=>(Classical.choose_spec (dec (.bool false) w)).2 rfl⟩
theorem Vb (fa1 fa2:Option Addr) (fl1 fc1 fl2 fc2 tg tc:Nat) (ya:Option Addr) (yn yc:Nat) (T:List Int) (m:PM) (x:Rd.Mth) (bm:Nat) (x0:Zt) (lk:Cd.Ins→Zt→Zv→Zv) (OK:Zv→Prop) (mu:Zv→Nat) (done:Zv→Zv) (w:World)
  (hl:T.length≤1000) (hT:TreeIn w tg T) (hm:m.is x w bm) (hc1:x.code.length≤1000) (hc0:∀ y∈x.code,0≤y)
  (hSt:∀ w',Below w.heap.size w w'→Calls Tryz.prog 78 #[m.val] w' fun e w''=>∃ u:FrV,e=.returned u.val∧u.is x0 w''∧Below w'.heap.size w' w'')
  (h0:OK (Aaf T m.st x0 0 ⟨List.replicate x.code.length Ab4,false⟩))
  (hdone:∀ t,OK t→done t=if ((Zz lk (Cd.readL x.code) false t).2 && !(Zz lk (Cd.readL x.code) false t).1.hop)=true then done (Zz lk (Cd.readL x.code) false t).1 else (Zz lk (Cd.readL x.code) false t).1)
  (hmu:∀ t,OK t→((Zz lk (Cd.readL x.code) false t).2 && !(Zz lk (Cd.readL x.code) false t).1.hop)=true→mu (Zz lk (Cd.readL x.code) false t).1<mu t)
  (hRd:∀ la lc bb S G t w',Below w.heap.size w w'→w.heap.size≤S→w.heap.size≤G→InsAt w' bb (.slice la (Cd.readL x.code).length lc) (Cd.readL x.code)→OK t →
   LsAt w' S G ⟨fa1,fl1,fc1,fa2,fl2,fc2,tg,tc,ya,yn,yc,m.cl,m.nm,m.pa,m.pl,m.pc,m.r1,m.r2,m.lo,m.st,m.ca,x.code.length,m.cc,m.ha,m.hl,m.hc,m.ma,m.ml,m.mc,la,lc,T,Cd.readL x.code⟩ x.code.length t →
   Calls Tryz.prog 80 #[.pointer (some ⟨S,0,none⟩)] w' fun e w''=>e=.returned (.bool ((Zz lk (Cd.readL x.code) false t).2 && !(Zz lk (Cd.readL x.code) false t).1.hop)) ∧
    LsAt w'' S G ⟨fa1,fl1,fc1,fa2,fl2,fc2,tg,tc,ya,yn,yc,m.cl,m.nm,m.pa,m.pl,m.pc,m.r1,m.r2,m.lo,m.st,m.ca,x.code.length,m.cc,m.ha,m.hl,m.hc,m.ma,m.ml,m.mc,la,lc,T,Cd.readL x.code⟩ x.code.length (Zz lk (Cd.readL x.code) false t).1∧OK (Zz lk (Cd.readL x.code) false t).1∧Lw S G w' w'') :
  Calls Tryz.prog 42 #[.agg #[.slice fa1 fl1 fc1,.slice fa2 fl2 fc2],.agg #[.slice (some ⟨tg,0,none⟩) T.length tc,.slice ya yn yc],m.val] w fun e w'=>∃ a n c,e=.returned (.tuple #[.slice a n c,.bool (!(done (Aaf T m.st x0 0 ⟨List.replicate x.code.length Ab4,false⟩)).hop)]) ∧
   ((done (Aaf T m.st x0 0 ⟨List.replicate x.code.length Ab4,false⟩)).hop=false→∃ ms,ms.map Prod.fst=Aav 0 (done (Aaf T m.st x0 0 ⟨List.replicate x.code.length Ab4,false⟩)).sp∧MpsR w' w.heap.size (.slice a n c) ms)∧Below w.heap.size w w':=by
 have hcn:=hm.cn;obtain⟨cl,nm,pa,pl,pc,r1,r2,lo,st,ca,cn,cc,ha,hl',hc,ma,ml,mc⟩:=m;simp only[PM.val,FrV.val]at *;subst hcn;have hrd:=fun w' (h:Below w.heap.size w w')=>Lv x.code ca cc bm w' hc1 hc0 (hm.below h).code;have hmk:=fun w'=>Wl x.code.length hc1 w';have hfo:=fun la lc w'=>Wh ⟨fa1,fl1,fc1,fa2,fl2,fc2,tg,tc,ya,yn,yc,cl,nm,pa,pl,pc,r1,r2,lo,st,ca,x.code.length,cc,ha,hl',hc,ma,ml,mc,la,lc,T,Cd.readL x.code⟩ w';have har:=fun la lc S G s v y w' hT' h hv=>Hp ⟨fa1,fl1,fc1,fa2,fl2,fc2,tg,tc,ya,yn,yc,cl,nm,pa,pl,pc,r1,r2,lo,st,ca,x.code.length,cc,ha,hl',hc,ma,ml,mc,la,lc,T,Cd.readL x.code⟩ S G x.code.length s v y 0 w' hl hT' h hv;simp only[PBd.val]at hfo har hrd;generalize hR:done (Aaf T st x0 0 ⟨List.replicate x.code.length Ab4,false⟩)=R;have HR:=Ac hR;have HFO':=Ac hfo;have HRD:=Ac hrd;have HAR:=Ac har;have HST:=Ac hSt;have HRN:=Ac hRd;have HDN:=Ac hdone;have HMU:=Ac hmu;have H0:=Ac h0;clear hR hfo hrd har hSt hRd hdone hmu h0 hm hc0 hl;have hB0:=A8 w (O1 fa1 fl1 fc1 fa2 fl2 fc2) (O2 (some ⟨tg,0,none⟩) T.length tc ya yn yc) (O20 cl nm pa pl pc r1 r2 lo st ca x.code.length cc ha hl' hc ma ml mc);obtain⟨F0,T0,M0⟩:=Em w (O1 fa1 fl1 fc1 fa2 fl2 fc2) (O2 (some ⟨tg,0,none⟩) T.length tc ya yn yc) (O20 cl nm pa pl pc r1 r2 lo st ca x.code.length cc ha hl' hc ma ml mc);go_enter Tryz.func42,Tryz.ntmps42;go_wp2_with fail
 refine(Aa HRD _ hB0).mono ?_;rintro e w2 ⟨la,lc,rfl,hI2',hb2⟩;obtain⟨bb,hI2⟩:∃ bb,InsAt w2 bb (.slice la (Cd.readL x.code).length lc) (Cd.readL x.code):=⟨_,hI2'⟩;clear hI2';have hB2:=QB hB0 hb2;have CF2:=stay hb2 F0;have CT2:=stay hb2 T0;have CM2:=stay hb2 M0;have hd2:Below w2.heap.size w2 w2.drew:=(Below.refl _ _).drew;have HFO:=Ac (Aa HFO' la lc);clear F0 T0 M0 hB0 hb2 HFO'
 go_upto_region 2 with fail
 go_cut [11] from 12 (fun s11 wx=>∃ S G,s11=.pointer (some ⟨S,0,none⟩)∧wx.heap[S]?=some (O29 (some ⟨tg,0,none⟩) T.length tc ya yn yc cl nm pa pl pc r1 r2 lo st ca x.code.length cc ha hl' hc ma ml mc la (Cd.readL x.code).length lc fa1 fl1 fc1 fa2 fl2 fc2 (some ⟨tg,0,none⟩) T.length tc ya yn yc cl nm pa pl pc r1 r2 lo st ca x.code.length cc ha hl' hc ma ml mc la (Cd.readL x.code).length lc (some ⟨G,0,none⟩) x.code.length x.code.length false)∧wx.heap[G]?=some (.cells (Z6 x.code.length) 212 (0,0))∧S≠G∧w2.heap.size≤S∧w2.heap.size≤G∧Below w2.heap.size w2 wx)
 case first =>
  go_wp2;refine wp_region_held_drew (S:=(fun w'=>(w'.cell? ⟨w.heap.size,0,none⟩=some (.slice fa1 fl1 fc1)∧w'.cell? ⟨w.heap.size,1,none⟩=some (.slice fa2 fl2 fc2))∧(w'.cell? ⟨w.heap.size+1,0,none⟩=some (.slice (some ⟨tg,0,none⟩) T.length tc)∧w'.cell? ⟨w.heap.size+1,1,none⟩=some (.slice ya yn yc))∧w'.cell? ⟨w.heap.size+1+1,0,none⟩=some (.int .i64 cl)∧w'.cell? ⟨w.heap.size+1+1,1,none⟩=some (.int .i64 nm)∧w'.cell? ⟨w.heap.size+1+1,2,none⟩=some (.slice pa pl pc)∧w'.cell? ⟨w.heap.size+1+1,3,none⟩=some (.int .i64 r1)∧w'.cell? ⟨w.heap.size+1+1,4,none⟩=some (.int .i64 r2)∧w'.cell? ⟨w.heap.size+1+1,5,none⟩=some (.int .i64 lo)∧w'.cell? ⟨w.heap.size+1+1,6,none⟩=some (.int .i64 st)∧w'.cell? ⟨w.heap.size+1+1,7,none⟩=some (.slice ca x.code.length cc)∧w'.cell? ⟨w.heap.size+1+1,8,none⟩=some (.slice ha hl' hc)∧w'.cell? ⟨w.heap.size+1+1,9,none⟩=some (.slice ma ml mc))) (by kernel_rfl) (A5 CF2 CT2 CM2) (fun hHeld=>?_);refine wpAnyH_take (i:=0) (oi:=⟨_,_,_,_,_,_⟩) (v:=.agg #[.slice (some ⟨tg,0,none⟩) T.length tc,.slice ya yn yc]) rfl (by kernel_rfl) (by kernel_rfl) (by kernel_rfl) (fun _ _ _ h=>h) (Or.inl ⟨by rfl,?_⟩) hHeld ?_
  ·intro w' hSw
   try dsimp only at hSw
   go_simp
  try simp only[QX]
  refine wpAnyH_take (i:=1) (oi:=⟨_,_,_,_,_,_⟩) (v:=.agg #[.int .i64 cl,.int .i64 nm,.slice pa pl pc,.int .i64 r1,.int .i64 r2,.int .i64 lo,.int .i64 st,.slice ca x.code.length cc,.slice ha hl' hc,.slice ma ml mc]) rfl (by kernel_rfl) (by kernel_rfl) (by kernel_rfl) (fun _ _ _ h=>h) (Or.inl ⟨by rfl,?_⟩) hHeld ?_
  ·intro w' hSw
   try dsimp only at hSw
   go_simp
  try simp only[QX]
  refine wpAnyH_take (i:=2) (oi:=⟨_,_,_,_,_,_⟩) (v:=.slice la (Cd.readL x.code).length lc) rfl (by kernel_rfl) (by kernel_rfl) (by kernel_rfl) (fun _ _ _ h=>h) (Or.inl ⟨by rfl,?_⟩) hHeld ?_
  ·intro w' hSw
   try dsimp only at hSw
   go_simp
  try simp only[QX]
  refine wpAnyH_take (i:=3) (oi:=⟨_,_,_,_,_,_⟩) (v:=.agg #[.slice fa1 fl1 fc1,.slice fa2 fl2 fc2]) rfl (by kernel_rfl) (by kernel_rfl) (by kernel_rfl) (fun _ _ _ h=>h) (Or.inl ⟨by rfl,?_⟩) hHeld ?_
  ·intro w' hSw
   try dsimp only at hSw
   go_simp
  try simp only[QX]
  refine wpAnyH_take (i:=4) (oi:=⟨_,_,_,_,_,_⟩) (v:=.agg #[.slice (some ⟨tg,0,none⟩) T.length tc,.slice ya yn yc]) rfl (by kernel_rfl) (by kernel_rfl) (by kernel_rfl) (fun _ _ _ h=>h) (Or.inl ⟨by rfl,?_⟩) hHeld ?_
  ·intro w' hSw
   try dsimp only at hSw
   go_simp
  try simp only[QX]
  refine wpAnyH_take (i:=5) (oi:=⟨_,_,_,_,_,_⟩) (v:=.agg #[.int .i64 cl,.int .i64 nm,.slice pa pl pc,.int .i64 r1,.int .i64 r2,.int .i64 lo,.int .i64 st,.slice ca x.code.length cc,.slice ha hl' hc,.slice ma ml mc]) rfl (by kernel_rfl) (by kernel_rfl) (by kernel_rfl) (fun _ _ _ h=>h) (Or.inl ⟨by rfl,?_⟩) hHeld ?_
  ·intro w' hSw
   try dsimp only at hSw
   go_simp
  try simp only[QX]
  refine wpAnyH_take (i:=6) (oi:=⟨_,_,_,_,_,_⟩) (v:=.slice la (Cd.readL x.code).length lc) rfl (by kernel_rfl) (by kernel_rfl) (by kernel_rfl) (fun _ _ _ h=>h) (Or.inl ⟨by rfl,?_⟩) hHeld ?_
  ·intro w' hSw
   try dsimp only at hSw
   go_simp
  try simp only[QX]
  refine wpAnyH_take (i:=8) (oi:=⟨_,_,_,_,_,_⟩) (v:=.pointer (some ⟨w.heap.size+1+1,7,none⟩)) rfl (by kernel_rfl) (by kernel_rfl) (by kernel_rfl) (fun _ _ _ h=>h) (Or.inl ⟨by rfl,?_⟩) hHeld ?_
  ·intro w' hSw
   try dsimp only at hSw
   go_simp
  try simp only[QX]
  refine wpAnyH_take (i:=9) (oi:=⟨_,_,_,_,_,_⟩) (v:=.slice ca x.code.length cc) rfl (by kernel_rfl) (by kernel_rfl) (by kernel_rfl) (fun _ _ _ h=>h) (Or.inl ⟨by rfl,?_⟩) hHeld ?_
  ·intro w' hSw
   try dsimp only at hSw
   go_simp
  try simp only[QX]
  refine wpAnyH_take (i:=10) (oi:=⟨_,_,_,_,_,_⟩) (v:=.int .i64 (x.code.length:Int)) rfl (by kernel_rfl) (by kernel_rfl) (by kernel_rfl) (fun _ _ _ h=>h) (Or.inl ⟨by rfl,?_⟩) hHeld ?_
  ·intro w' hSw
   try dsimp only at hSw
   go_simp
  try simp only[QX]
  refine wpAnyH_ready (rs:=[7,11,13]) (by kernel_rfl) (by simp) ?_;refine AllReadyH.cons (o:=⟨_,_,_,_,_,_⟩) rfl (fun K hK=>?_) (AllReadyH.cons (o:=⟨_,_,_,_,_,_⟩) rfl (fun K hK=>?_) (AllReadyH.cons (o:=⟨_,_,_,_,_,_⟩) rfl (fun K hK=>?_) AllReadyH.nil))
  ·go_simp
   refine(Aa HFO _).mono ?_;rintro e w5 ⟨rfl,hb5⟩;have hx5:Below w2.heap.size w2 w5:=(hd2).trans (hb5.mono (hd2).size)
   try dsimp only
   clear hHeld;refine hK.out _ _ (A5 (stay (hx5) CF2) (stay (hx5) CT2) (stay (hx5) CM2)) (fun hHeld=>?_);clear hK K
   try simp only[QX]
   refine wpAnyH_ready (rs:=[11,13]) (by kernel_rfl) (by simp) ?_;refine AllReadyH.cons (o:=⟨_,_,_,_,_,_⟩) rfl (fun K hK=>?_) (AllReadyH.cons (o:=⟨_,_,_,_,_,_⟩) rfl (fun K hK=>?_) AllReadyH.nil)
   ·go_simp
    clear hHeld;refine hK.out _ _ (A5 (stay ((hx5).alloc (hx5).size (.cells (Z6 x.code.length) 212)) CF2) (stay ((hx5).alloc (hx5).size (.cells (Z6 x.code.length) 212)) CT2) (stay ((hx5).alloc (hx5).size (.cells (Z6 x.code.length) 212)) CM2)) (fun hHeld=>?_);clear hK K
    try simp only[QX]
    refine wpAnyH_take (i:=12) (oi:=⟨_,_,_,_,_,_⟩) (v:=.agg #[.slice (some ⟨tg,0,none⟩) T.length tc,.slice ya yn yc,.int .i64 cl,.int .i64 nm,.slice pa pl pc,.int .i64 r1,.int .i64 r2,.int .i64 lo,.int .i64 st,.slice ca x.code.length cc,.slice ha hl' hc,.slice ma ml mc,.slice la (Cd.readL x.code).length lc,.slice fa1 fl1 fc1,.slice fa2 fl2 fc2,.slice (some ⟨tg,0,none⟩) T.length tc,.slice ya yn yc,.int .i64 cl,.int .i64 nm,.slice pa pl pc,.int .i64 r1,.int .i64 r2,.int .i64 lo,.int .i64 st,.slice ca x.code.length cc,.slice ha hl' hc,.slice ma ml mc,.slice la (Cd.readL x.code).length lc,.slice (some ⟨w5.heap.size,0,none⟩) x.code.length x.code.length,.bool false]) rfl (by kernel_rfl) (by kernel_rfl) (by kernel_rfl) (fun _ _ _ h=>h) (Or.inl ⟨by rfl,?_⟩) hHeld ?_
    ·intro w' hSw
     try dsimp only at hSw
     go_simp
    try simp only[QX]
    refine wpAnyH_ready (rs:=[13]) (by kernel_rfl) (by simp) ?_;refine AllReadyH.cons (o:=⟨_,_,_,_,_,_⟩) rfl (fun K hK=>?_) AllReadyH.nil
    go_simp
    clear hHeld;refine hK.out _ _ (A5 (stay (((hx5).alloc (hx5).size (.cells (Z6 x.code.length) 212)).alloc ((hx5).alloc (hx5).size (.cells (Z6 x.code.length) 212)).size Aab) CF2) (stay (((hx5).alloc (hx5).size (.cells (Z6 x.code.length) 212)).alloc ((hx5).alloc (hx5).size (.cells (Z6 x.code.length) 212)).size Aab) CT2) (stay (((hx5).alloc (hx5).size (.cells (Z6 x.code.length) 212)).alloc ((hx5).alloc (hx5).size (.cells (Z6 x.code.length) 212)).size Aab) CM2)) (fun hHeld=>?_);clear hK K
    try simp only[QX]
    have HPB:(((((w5).alloc (.cells (Z6 x.code.length) 212))).alloc Aab)).heap[w5.heap.size+1]?=some Aab:=Ag w5 (.cells (Z6 x.code.length) 212) Aab;have HGB:(((((w5).alloc (.cells (Z6 x.code.length) 212))).alloc Aab)).heap[w5.heap.size]?=some (.cells (Z6 x.code.length) 212 (0,0)):=Aj (Ad w5 (.cells (Z6 x.code.length) 212)) _;have hne:w5.heap.size+1≠w5.heap.size:=fun e=>by rw[e]at HPB;exact Fk HPB HGB (by decide)
    have hxx:Below w2.heap.size w2 (((((w5).alloc (.cells (Z6 x.code.length) 212))).alloc Aab)):=((hx5).alloc (hx5).size (.cells (Z6 x.code.length) 212)).alloc ((hx5).alloc (hx5).size (.cells (Z6 x.code.length) 212)).size Aab;have hla:w2.heap.size≤w5.heap.size+1:=by have:=((hx5).alloc (hx5).size (.cells (Z6 x.code.length) 212)).size;(try simp at this ⊢)<;>(try omega)
    have hlg:w2.heap.size≤w5.heap.size:=(hx5).size;refine wpAnyH_ready (rs:=[14]) (by kernel_rfl) (by simp) ?_;refine AllReadyH.cons (o:=⟨_,_,_,_,_,_⟩) rfl (fun K hK=>?_) AllReadyH.nil;refine Cf (by rfl) 149 _ _ (by rfl) (w5.heap.size+1) #[.slice (some ⟨tg,0,none⟩) T.length tc,.slice ya yn yc,.int .i64 cl,.int .i64 nm,.slice pa pl pc,.int .i64 r1,.int .i64 r2,.int .i64 lo,.int .i64 st,.slice ca x.code.length cc,.slice ha hl' hc,.slice ma ml mc,.slice la (Cd.readL x.code).length lc,.slice fa1 fl1 fc1,.slice fa2 fl2 fc2,.slice (some ⟨tg,0,none⟩) T.length tc,.slice ya yn yc,.int .i64 cl,.int .i64 nm,.slice pa pl pc,.int .i64 r1,.int .i64 r2,.int .i64 lo,.int .i64 st,.slice ca x.code.length cc,.slice ha hl' hc,.slice ma ml mc,.slice la (Cd.readL x.code).length lc,.slice (some ⟨w5.heap.size,0,none⟩) x.code.length x.code.length,.bool false] (by rfl) (by rfl) 149 _ HPB Tryz.infoSearch (by rfl) (by simp[Value.oneCell']) ?_;clear hHeld;refine hK.out _ _ (A5 ((Ay (by have:=lt_of_block CF2;omega)).trans (stay hxx CF2)) ((Ay (by have:=lt_of_block CT2;omega)).trans (stay hxx CT2)) ((Ay (by have:=lt_of_block CM2;omega)).trans (stay hxx CM2))) (fun hHeld=>?_);clear hK K
    try simp only[Act.put]
    refine wpAnyH_done (by kernel_rfl) ?_ _;go_wp2
    go_meet
    case rel=>exact⟨w5.heap.size+1,w5.heap.size,rfl,Dw HPB,(Ay (fun e=>hne e.symm)).trans HGB,hne,hla,hlg,Ej hxx hla _⟩
   ·go_simp
    clear hHeld;refine hK.out _ _ (A5 (stay ((hx5).alloc (hx5).size Aab) CF2) (stay ((hx5).alloc (hx5).size Aab) CT2) (stay ((hx5).alloc (hx5).size Aab) CM2)) (fun hHeld=>?_);clear hK K
    try simp only[QX]
    refine wpAnyH_ready (rs:=[11]) (by kernel_rfl) (by simp) ?_;refine AllReadyH.cons (o:=⟨_,_,_,_,_,_⟩) rfl (fun K hK=>?_) AllReadyH.nil
    go_simp
    clear hHeld;refine hK.out _ _ (A5 (stay (((hx5).alloc (hx5).size Aab).alloc ((hx5).alloc (hx5).size Aab).size (.cells (Z6 x.code.length) 212)) CF2) (stay (((hx5).alloc (hx5).size Aab).alloc ((hx5).alloc (hx5).size Aab).size (.cells (Z6 x.code.length) 212)) CT2) (stay (((hx5).alloc (hx5).size Aab).alloc ((hx5).alloc (hx5).size Aab).size (.cells (Z6 x.code.length) 212)) CM2)) (fun hHeld=>?_);clear hK K
    try simp only[QX]
    refine wpAnyH_take (i:=12) (oi:=⟨_,_,_,_,_,_⟩) (v:=.agg #[.slice (some ⟨tg,0,none⟩) T.length tc,.slice ya yn yc,.int .i64 cl,.int .i64 nm,.slice pa pl pc,.int .i64 r1,.int .i64 r2,.int .i64 lo,.int .i64 st,.slice ca x.code.length cc,.slice ha hl' hc,.slice ma ml mc,.slice la (Cd.readL x.code).length lc,.slice fa1 fl1 fc1,.slice fa2 fl2 fc2,.slice (some ⟨tg,0,none⟩) T.length tc,.slice ya yn yc,.int .i64 cl,.int .i64 nm,.slice pa pl pc,.int .i64 r1,.int .i64 r2,.int .i64 lo,.int .i64 st,.slice ca x.code.length cc,.slice ha hl' hc,.slice ma ml mc,.slice la (Cd.readL x.code).length lc,.slice (some ⟨w5.heap.size+1,0,none⟩) x.code.length x.code.length,.bool false]) rfl (by kernel_rfl) (by kernel_rfl) (by kernel_rfl) (fun _ _ _ h=>h) (Or.inl ⟨by rfl,?_⟩) hHeld ?_
    ·intro w' hSw
     try dsimp only at hSw
     go_simp
    try simp only[QX]
    have HPB:(((((w5).alloc Aab)).alloc (.cells (Z6 x.code.length) 212))).heap[w5.heap.size]?=some Aab:=Aj (Ad w5 Aab) _;have HGB:(((((w5).alloc Aab)).alloc (.cells (Z6 x.code.length) 212))).heap[w5.heap.size+1]?=some (.cells (Z6 x.code.length) 212 (0,0)):=Ag w5 Aab (.cells (Z6 x.code.length) 212);have hne:w5.heap.size≠w5.heap.size+1:=fun e=>by rw[e]at HPB;exact Fk HPB HGB (by decide)
    have hxx:Below w2.heap.size w2 (((((w5).alloc Aab)).alloc (.cells (Z6 x.code.length) 212))):=((hx5).alloc (hx5).size Aab).alloc ((hx5).alloc (hx5).size Aab).size (.cells (Z6 x.code.length) 212);have hla:w2.heap.size≤w5.heap.size:=(hx5).size;have hlg:w2.heap.size≤w5.heap.size+1:=by have:=((hx5).alloc (hx5).size Aab).size;(try simp at this ⊢)<;>(try omega)
    refine wpAnyH_ready (rs:=[14]) (by kernel_rfl) (by simp) ?_;refine AllReadyH.cons (o:=⟨_,_,_,_,_,_⟩) rfl (fun K hK=>?_) AllReadyH.nil;refine Cf (by rfl) 149 _ _ (by rfl) (w5.heap.size) #[.slice (some ⟨tg,0,none⟩) T.length tc,.slice ya yn yc,.int .i64 cl,.int .i64 nm,.slice pa pl pc,.int .i64 r1,.int .i64 r2,.int .i64 lo,.int .i64 st,.slice ca x.code.length cc,.slice ha hl' hc,.slice ma ml mc,.slice la (Cd.readL x.code).length lc,.slice fa1 fl1 fc1,.slice fa2 fl2 fc2,.slice (some ⟨tg,0,none⟩) T.length tc,.slice ya yn yc,.int .i64 cl,.int .i64 nm,.slice pa pl pc,.int .i64 r1,.int .i64 r2,.int .i64 lo,.int .i64 st,.slice ca x.code.length cc,.slice ha hl' hc,.slice ma ml mc,.slice la (Cd.readL x.code).length lc,.slice (some ⟨w5.heap.size+1,0,none⟩) x.code.length x.code.length,.bool false] (by rfl) (by rfl) 149 _ HPB Tryz.infoSearch (by rfl) (by simp[Value.oneCell']) ?_;clear hHeld;refine hK.out _ _ (A5 ((Ay (by have:=lt_of_block CF2;omega)).trans (stay hxx CF2)) ((Ay (by have:=lt_of_block CT2;omega)).trans (stay hxx CT2)) ((Ay (by have:=lt_of_block CM2;omega)).trans (stay hxx CM2))) (fun hHeld=>?_);clear hK K
    try simp only[Act.put]
    refine wpAnyH_done (by kernel_rfl) ?_ _;go_wp2
    go_meet
    case rel=>exact⟨w5.heap.size,w5.heap.size+1,rfl,Dw HPB,(Ay (fun e=>hne e.symm)).trans HGB,hne,hla,hlg,Ej hxx hla _⟩
  ·go_simp
   clear hHeld;refine hK.out _ _ (A5 (stay ((hd2).alloc (hd2).size (.cells (Z6 x.code.length) 212)) CF2) (stay ((hd2).alloc (hd2).size (.cells (Z6 x.code.length) 212)) CT2) (stay ((hd2).alloc (hd2).size (.cells (Z6 x.code.length) 212)) CM2)) (fun hHeld=>?_);clear hK K
   try simp only[QX]
   refine wpAnyH_ready (rs:=[7,13]) (by kernel_rfl) (by simp) ?_;refine AllReadyH.cons (o:=⟨_,_,_,_,_,_⟩) rfl (fun K hK=>?_) (AllReadyH.cons (o:=⟨_,_,_,_,_,_⟩) rfl (fun K hK=>?_) AllReadyH.nil)
   ·go_simp
    refine(Aa HFO _).mono ?_;rintro e w5 ⟨rfl,hb5⟩;have hx5:Below w2.heap.size w2 w5:=((hd2).alloc (hd2).size (.cells (Z6 x.code.length) 212)).trans (hb5.mono ((hd2).alloc (hd2).size (.cells (Z6 x.code.length) 212)).size)
    try dsimp only
    clear hHeld;refine hK.out _ _ (A5 (stay (hx5) CF2) (stay (hx5) CT2) (stay (hx5) CM2)) (fun hHeld=>?_);clear hK K
    try simp only[QX]
    refine wpAnyH_take (i:=12) (oi:=⟨_,_,_,_,_,_⟩) (v:=.agg #[.slice (some ⟨tg,0,none⟩) T.length tc,.slice ya yn yc,.int .i64 cl,.int .i64 nm,.slice pa pl pc,.int .i64 r1,.int .i64 r2,.int .i64 lo,.int .i64 st,.slice ca x.code.length cc,.slice ha hl' hc,.slice ma ml mc,.slice la (Cd.readL x.code).length lc,.slice fa1 fl1 fc1,.slice fa2 fl2 fc2,.slice (some ⟨tg,0,none⟩) T.length tc,.slice ya yn yc,.int .i64 cl,.int .i64 nm,.slice pa pl pc,.int .i64 r1,.int .i64 r2,.int .i64 lo,.int .i64 st,.slice ca x.code.length cc,.slice ha hl' hc,.slice ma ml mc,.slice la (Cd.readL x.code).length lc,.slice (some ⟨w2.heap.size,0,none⟩) x.code.length x.code.length,.bool false]) rfl (by kernel_rfl) (by kernel_rfl) (by kernel_rfl) (fun _ _ _ h=>h) (Or.inl ⟨by rfl,?_⟩) hHeld ?_
    ·intro w' hSw
     try dsimp only at hSw
     go_simp
    try simp only[QX]
    refine wpAnyH_ready (rs:=[13]) (by kernel_rfl) (by simp) ?_;refine AllReadyH.cons (o:=⟨_,_,_,_,_,_⟩) rfl (fun K hK=>?_) AllReadyH.nil
    go_simp
    clear hHeld;refine hK.out _ _ (A5 (stay ((hx5).alloc (hx5).size Aab) CF2) (stay ((hx5).alloc (hx5).size Aab) CT2) (stay ((hx5).alloc (hx5).size Aab) CM2)) (fun hHeld=>?_);clear hK K
    try simp only[QX]
    have HPB:(((w5).alloc Aab)).heap[w5.heap.size]?=some Aab:=Ad w5 Aab;have HGB:(((w5).alloc Aab)).heap[w2.heap.size]?=some (.cells (Z6 x.code.length) 212 (0,0)):=Aj (stay hb5 (Ad w2.drew (.cells (Z6 x.code.length) 212))) _;have hne:w5.heap.size≠w2.heap.size:=fun e=>by rw[e]at HPB;exact Fk HPB HGB (by decide)
    have hxx:Below w2.heap.size w2 (((w5).alloc Aab)):=(hx5).alloc (hx5).size Aab;have hla:w2.heap.size≤w5.heap.size:=(hx5).size;have hlg:w2.heap.size≤w2.heap.size:=(hd2).size;refine wpAnyH_ready (rs:=[14]) (by kernel_rfl) (by simp) ?_;refine AllReadyH.cons (o:=⟨_,_,_,_,_,_⟩) rfl (fun K hK=>?_) AllReadyH.nil;refine Cf (by rfl) 149 _ _ (by rfl) (w5.heap.size) #[.slice (some ⟨tg,0,none⟩) T.length tc,.slice ya yn yc,.int .i64 cl,.int .i64 nm,.slice pa pl pc,.int .i64 r1,.int .i64 r2,.int .i64 lo,.int .i64 st,.slice ca x.code.length cc,.slice ha hl' hc,.slice ma ml mc,.slice la (Cd.readL x.code).length lc,.slice fa1 fl1 fc1,.slice fa2 fl2 fc2,.slice (some ⟨tg,0,none⟩) T.length tc,.slice ya yn yc,.int .i64 cl,.int .i64 nm,.slice pa pl pc,.int .i64 r1,.int .i64 r2,.int .i64 lo,.int .i64 st,.slice ca x.code.length cc,.slice ha hl' hc,.slice ma ml mc,.slice la (Cd.readL x.code).length lc,.slice (some ⟨w2.heap.size,0,none⟩) x.code.length x.code.length,.bool false] (by rfl) (by rfl) 149 _ HPB Tryz.infoSearch (by rfl) (by simp[Value.oneCell']) ?_;clear hHeld;refine hK.out _ _ (A5 ((Ay (by have:=lt_of_block CF2;omega)).trans (stay hxx CF2)) ((Ay (by have:=lt_of_block CT2;omega)).trans (stay hxx CT2)) ((Ay (by have:=lt_of_block CM2;omega)).trans (stay hxx CM2))) (fun hHeld=>?_);clear hK K
    try simp only[Act.put]
    refine wpAnyH_done (by kernel_rfl) ?_ _;go_wp2
    go_meet
    case rel=>exact⟨w5.heap.size,w2.heap.size,rfl,Dw HPB,(Ay (fun e=>hne e.symm)).trans HGB,hne,hla,hlg,Ej hxx hla _⟩
   ·go_simp
    clear hHeld;refine hK.out _ _ (A5 (stay (((hd2).alloc (hd2).size (.cells (Z6 x.code.length) 212)).alloc ((hd2).alloc (hd2).size (.cells (Z6 x.code.length) 212)).size Aab) CF2) (stay (((hd2).alloc (hd2).size (.cells (Z6 x.code.length) 212)).alloc ((hd2).alloc (hd2).size (.cells (Z6 x.code.length) 212)).size Aab) CT2) (stay (((hd2).alloc (hd2).size (.cells (Z6 x.code.length) 212)).alloc ((hd2).alloc (hd2).size (.cells (Z6 x.code.length) 212)).size Aab) CM2)) (fun hHeld=>?_);clear hK K
    try simp only[QX]
    refine wpAnyH_ready (rs:=[7]) (by kernel_rfl) (by simp) ?_;refine AllReadyH.cons (o:=⟨_,_,_,_,_,_⟩) rfl (fun K hK=>?_) AllReadyH.nil
    go_simp
    refine(Aa HFO _).mono ?_;rintro e w5 ⟨rfl,hb5⟩;have hx5:Below w2.heap.size w2 w5:=(((hd2).alloc (hd2).size (.cells (Z6 x.code.length) 212)).alloc ((hd2).alloc (hd2).size (.cells (Z6 x.code.length) 212)).size Aab).trans (hb5.mono (((hd2).alloc (hd2).size (.cells (Z6 x.code.length) 212)).alloc ((hd2).alloc (hd2).size (.cells (Z6 x.code.length) 212)).size Aab).size)
    try dsimp only
    clear hHeld;refine hK.out _ _ (A5 (stay (hx5) CF2) (stay (hx5) CT2) (stay (hx5) CM2)) (fun hHeld=>?_);clear hK K
    try simp only[QX]
    refine wpAnyH_take (i:=12) (oi:=⟨_,_,_,_,_,_⟩) (v:=.agg #[.slice (some ⟨tg,0,none⟩) T.length tc,.slice ya yn yc,.int .i64 cl,.int .i64 nm,.slice pa pl pc,.int .i64 r1,.int .i64 r2,.int .i64 lo,.int .i64 st,.slice ca x.code.length cc,.slice ha hl' hc,.slice ma ml mc,.slice la (Cd.readL x.code).length lc,.slice fa1 fl1 fc1,.slice fa2 fl2 fc2,.slice (some ⟨tg,0,none⟩) T.length tc,.slice ya yn yc,.int .i64 cl,.int .i64 nm,.slice pa pl pc,.int .i64 r1,.int .i64 r2,.int .i64 lo,.int .i64 st,.slice ca x.code.length cc,.slice ha hl' hc,.slice ma ml mc,.slice la (Cd.readL x.code).length lc,.slice (some ⟨w2.heap.size,0,none⟩) x.code.length x.code.length,.bool false]) rfl (by kernel_rfl) (by kernel_rfl) (by kernel_rfl) (fun _ _ _ h=>h) (Or.inl ⟨by rfl,?_⟩) hHeld ?_
    ·intro w' hSw
     try dsimp only at hSw
     go_simp
    try simp only[QX]
    have HPB:(w5).heap[w2.heap.size+1]?=some Aab:=stay hb5 (Ag w2.drew (.cells (Z6 x.code.length) 212) Aab);have HGB:(w5).heap[w2.heap.size]?=some (.cells (Z6 x.code.length) 212 (0,0)):=stay hb5 (Aj (Ad w2.drew (.cells (Z6 x.code.length) 212)) _);have hne:w2.heap.size+1≠w2.heap.size:=fun e=>by rw[e]at HPB;exact Fk HPB HGB (by decide)
    have hxx:Below w2.heap.size w2 (w5):=hx5;have hla:w2.heap.size≤w2.heap.size+1:=by have:=((hd2).alloc (hd2).size (.cells (Z6 x.code.length) 212)).size;(try simp at this ⊢)<;>(try omega)
    have hlg:w2.heap.size≤w2.heap.size:=(hd2).size;refine wpAnyH_ready (rs:=[14]) (by kernel_rfl) (by simp) ?_;refine AllReadyH.cons (o:=⟨_,_,_,_,_,_⟩) rfl (fun K hK=>?_) AllReadyH.nil;refine Cf (by rfl) 149 _ _ (by rfl) (w2.heap.size+1) #[.slice (some ⟨tg,0,none⟩) T.length tc,.slice ya yn yc,.int .i64 cl,.int .i64 nm,.slice pa pl pc,.int .i64 r1,.int .i64 r2,.int .i64 lo,.int .i64 st,.slice ca x.code.length cc,.slice ha hl' hc,.slice ma ml mc,.slice la (Cd.readL x.code).length lc,.slice fa1 fl1 fc1,.slice fa2 fl2 fc2,.slice (some ⟨tg,0,none⟩) T.length tc,.slice ya yn yc,.int .i64 cl,.int .i64 nm,.slice pa pl pc,.int .i64 r1,.int .i64 r2,.int .i64 lo,.int .i64 st,.slice ca x.code.length cc,.slice ha hl' hc,.slice ma ml mc,.slice la (Cd.readL x.code).length lc,.slice (some ⟨w2.heap.size,0,none⟩) x.code.length x.code.length,.bool false] (by rfl) (by rfl) 149 _ HPB Tryz.infoSearch (by rfl) (by simp[Value.oneCell']) ?_;clear hHeld;refine hK.out _ _ (A5 ((Ay (by have:=lt_of_block CF2;omega)).trans (stay hxx CF2)) ((Ay (by have:=lt_of_block CT2;omega)).trans (stay hxx CT2)) ((Ay (by have:=lt_of_block CM2;omega)).trans (stay hxx CM2))) (fun hHeld=>?_);clear hK K
    try simp only[Act.put]
    refine wpAnyH_done (by kernel_rfl) ?_ _;go_wp2
    go_meet
    case rel=>exact⟨w2.heap.size+1,w2.heap.size,rfl,Dw HPB,(Ay (fun e=>hne e.symm)).trans HGB,hne,hla,hlg,Ej hxx hla _⟩
  ·go_simp
   clear hHeld;refine hK.out _ _ (A5 (stay ((hd2).alloc (hd2).size Aab) CF2) (stay ((hd2).alloc (hd2).size Aab) CT2) (stay ((hd2).alloc (hd2).size Aab) CM2)) (fun hHeld=>?_);clear hK K
   try simp only[QX]
   refine wpAnyH_ready (rs:=[7,11]) (by kernel_rfl) (by simp) ?_;refine AllReadyH.cons (o:=⟨_,_,_,_,_,_⟩) rfl (fun K hK=>?_) (AllReadyH.cons (o:=⟨_,_,_,_,_,_⟩) rfl (fun K hK=>?_) AllReadyH.nil)
   ·go_simp
    refine(Aa HFO _).mono ?_;rintro e w5 ⟨rfl,hb5⟩;have hx5:Below w2.heap.size w2 w5:=((hd2).alloc (hd2).size Aab).trans (hb5.mono ((hd2).alloc (hd2).size Aab).size)
    try dsimp only
    clear hHeld;refine hK.out _ _ (A5 (stay (hx5) CF2) (stay (hx5) CT2) (stay (hx5) CM2)) (fun hHeld=>?_);clear hK K
    try simp only[QX]
    refine wpAnyH_ready (rs:=[11]) (by kernel_rfl) (by simp) ?_;refine AllReadyH.cons (o:=⟨_,_,_,_,_,_⟩) rfl (fun K hK=>?_) AllReadyH.nil
    go_simp
    clear hHeld;refine hK.out _ _ (A5 (stay ((hx5).alloc (hx5).size (.cells (Z6 x.code.length) 212)) CF2) (stay ((hx5).alloc (hx5).size (.cells (Z6 x.code.length) 212)) CT2) (stay ((hx5).alloc (hx5).size (.cells (Z6 x.code.length) 212)) CM2)) (fun hHeld=>?_);clear hK K
    try simp only[QX]
    refine wpAnyH_take (i:=12) (oi:=⟨_,_,_,_,_,_⟩) (v:=.agg #[.slice (some ⟨tg,0,none⟩) T.length tc,.slice ya yn yc,.int .i64 cl,.int .i64 nm,.slice pa pl pc,.int .i64 r1,.int .i64 r2,.int .i64 lo,.int .i64 st,.slice ca x.code.length cc,.slice ha hl' hc,.slice ma ml mc,.slice la (Cd.readL x.code).length lc,.slice fa1 fl1 fc1,.slice fa2 fl2 fc2,.slice (some ⟨tg,0,none⟩) T.length tc,.slice ya yn yc,.int .i64 cl,.int .i64 nm,.slice pa pl pc,.int .i64 r1,.int .i64 r2,.int .i64 lo,.int .i64 st,.slice ca x.code.length cc,.slice ha hl' hc,.slice ma ml mc,.slice la (Cd.readL x.code).length lc,.slice (some ⟨w5.heap.size,0,none⟩) x.code.length x.code.length,.bool false]) rfl (by kernel_rfl) (by kernel_rfl) (by kernel_rfl) (fun _ _ _ h=>h) (Or.inl ⟨by rfl,?_⟩) hHeld ?_
    ·intro w' hSw
     try dsimp only at hSw
     go_simp
    try simp only[QX]
    have HPB:(((w5).alloc (.cells (Z6 x.code.length) 212))).heap[w2.heap.size]?=some Aab:=Aj (stay hb5 (Ad w2.drew Aab)) _;have HGB:(((w5).alloc (.cells (Z6 x.code.length) 212))).heap[w5.heap.size]?=some (.cells (Z6 x.code.length) 212 (0,0)):=Ad w5 (.cells (Z6 x.code.length) 212);have hne:w2.heap.size≠w5.heap.size:=fun e=>by rw[e]at HPB;exact Fk HPB HGB (by decide)
    have hxx:Below w2.heap.size w2 (((w5).alloc (.cells (Z6 x.code.length) 212))):=(hx5).alloc (hx5).size (.cells (Z6 x.code.length) 212);have hla:w2.heap.size≤w2.heap.size:=(hd2).size;have hlg:w2.heap.size≤w5.heap.size:=(hx5).size;refine wpAnyH_ready (rs:=[14]) (by kernel_rfl) (by simp) ?_;refine AllReadyH.cons (o:=⟨_,_,_,_,_,_⟩) rfl (fun K hK=>?_) AllReadyH.nil;refine Cf (by rfl) 149 _ _ (by rfl) (w2.heap.size) #[.slice (some ⟨tg,0,none⟩) T.length tc,.slice ya yn yc,.int .i64 cl,.int .i64 nm,.slice pa pl pc,.int .i64 r1,.int .i64 r2,.int .i64 lo,.int .i64 st,.slice ca x.code.length cc,.slice ha hl' hc,.slice ma ml mc,.slice la (Cd.readL x.code).length lc,.slice fa1 fl1 fc1,.slice fa2 fl2 fc2,.slice (some ⟨tg,0,none⟩) T.length tc,.slice ya yn yc,.int .i64 cl,.int .i64 nm,.slice pa pl pc,.int .i64 r1,.int .i64 r2,.int .i64 lo,.int .i64 st,.slice ca x.code.length cc,.slice ha hl' hc,.slice ma ml mc,.slice la (Cd.readL x.code).length lc,.slice (some ⟨w5.heap.size,0,none⟩) x.code.length x.code.length,.bool false] (by rfl) (by rfl) 149 _ HPB Tryz.infoSearch (by rfl) (by simp[Value.oneCell']) ?_;clear hHeld;refine hK.out _ _ (A5 ((Ay (by have:=lt_of_block CF2;omega)).trans (stay hxx CF2)) ((Ay (by have:=lt_of_block CT2;omega)).trans (stay hxx CT2)) ((Ay (by have:=lt_of_block CM2;omega)).trans (stay hxx CM2))) (fun hHeld=>?_);clear hK K
    try simp only[Act.put]
    refine wpAnyH_done (by kernel_rfl) ?_ _;go_wp2
    go_meet
    case rel=>exact⟨w2.heap.size,w5.heap.size,rfl,Dw HPB,(Ay (fun e=>hne e.symm)).trans HGB,hne,hla,hlg,Ej hxx hla _⟩
   ·go_simp
    clear hHeld;refine hK.out _ _ (A5 (stay (((hd2).alloc (hd2).size Aab).alloc ((hd2).alloc (hd2).size Aab).size (.cells (Z6 x.code.length) 212)) CF2) (stay (((hd2).alloc (hd2).size Aab).alloc ((hd2).alloc (hd2).size Aab).size (.cells (Z6 x.code.length) 212)) CT2) (stay (((hd2).alloc (hd2).size Aab).alloc ((hd2).alloc (hd2).size Aab).size (.cells (Z6 x.code.length) 212)) CM2)) (fun hHeld=>?_);clear hK K
    try simp only[QX]
    refine wpAnyH_ready (rs:=[7]) (by kernel_rfl) (by simp) ?_;refine AllReadyH.cons (o:=⟨_,_,_,_,_,_⟩) rfl (fun K hK=>?_) AllReadyH.nil
    go_simp
    refine(Aa HFO _).mono ?_;rintro e w5 ⟨rfl,hb5⟩;have hx5:Below w2.heap.size w2 w5:=(((hd2).alloc (hd2).size Aab).alloc ((hd2).alloc (hd2).size Aab).size (.cells (Z6 x.code.length) 212)).trans (hb5.mono (((hd2).alloc (hd2).size Aab).alloc ((hd2).alloc (hd2).size Aab).size (.cells (Z6 x.code.length) 212)).size)
    try dsimp only
    clear hHeld;refine hK.out _ _ (A5 (stay (hx5) CF2) (stay (hx5) CT2) (stay (hx5) CM2)) (fun hHeld=>?_);clear hK K
    try simp only[QX]
    refine wpAnyH_take (i:=12) (oi:=⟨_,_,_,_,_,_⟩) (v:=.agg #[.slice (some ⟨tg,0,none⟩) T.length tc,.slice ya yn yc,.int .i64 cl,.int .i64 nm,.slice pa pl pc,.int .i64 r1,.int .i64 r2,.int .i64 lo,.int .i64 st,.slice ca x.code.length cc,.slice ha hl' hc,.slice ma ml mc,.slice la (Cd.readL x.code).length lc,.slice fa1 fl1 fc1,.slice fa2 fl2 fc2,.slice (some ⟨tg,0,none⟩) T.length tc,.slice ya yn yc,.int .i64 cl,.int .i64 nm,.slice pa pl pc,.int .i64 r1,.int .i64 r2,.int .i64 lo,.int .i64 st,.slice ca x.code.length cc,.slice ha hl' hc,.slice ma ml mc,.slice la (Cd.readL x.code).length lc,.slice (some ⟨w2.heap.size+1,0,none⟩) x.code.length x.code.length,.bool false]) rfl (by kernel_rfl) (by kernel_rfl) (by kernel_rfl) (fun _ _ _ h=>h) (Or.inl ⟨by rfl,?_⟩) hHeld ?_
    ·intro w' hSw
     try dsimp only at hSw
     go_simp
    try simp only[QX]
    have HPB:(w5).heap[w2.heap.size]?=some Aab:=stay hb5 (Aj (Ad w2.drew Aab) _);have HGB:(w5).heap[w2.heap.size+1]?=some (.cells (Z6 x.code.length) 212 (0,0)):=stay hb5 (Ag w2.drew Aab (.cells (Z6 x.code.length) 212));have hne:w2.heap.size≠w2.heap.size+1:=fun e=>by rw[e]at HPB;exact Fk HPB HGB (by decide)
    have hxx:Below w2.heap.size w2 (w5):=hx5;have hla:w2.heap.size≤w2.heap.size:=(hd2).size;have hlg:w2.heap.size≤w2.heap.size+1:=by have:=((hd2).alloc (hd2).size Aab).size;(try simp at this ⊢)<;>(try omega)
    refine wpAnyH_ready (rs:=[14]) (by kernel_rfl) (by simp) ?_;refine AllReadyH.cons (o:=⟨_,_,_,_,_,_⟩) rfl (fun K hK=>?_) AllReadyH.nil;refine Cf (by rfl) 149 _ _ (by rfl) (w2.heap.size) #[.slice (some ⟨tg,0,none⟩) T.length tc,.slice ya yn yc,.int .i64 cl,.int .i64 nm,.slice pa pl pc,.int .i64 r1,.int .i64 r2,.int .i64 lo,.int .i64 st,.slice ca x.code.length cc,.slice ha hl' hc,.slice ma ml mc,.slice la (Cd.readL x.code).length lc,.slice fa1 fl1 fc1,.slice fa2 fl2 fc2,.slice (some ⟨tg,0,none⟩) T.length tc,.slice ya yn yc,.int .i64 cl,.int .i64 nm,.slice pa pl pc,.int .i64 r1,.int .i64 r2,.int .i64 lo,.int .i64 st,.slice ca x.code.length cc,.slice ha hl' hc,.slice ma ml mc,.slice la (Cd.readL x.code).length lc,.slice (some ⟨w2.heap.size+1,0,none⟩) x.code.length x.code.length,.bool false] (by rfl) (by rfl) 149 _ HPB Tryz.infoSearch (by rfl) (by simp[Value.oneCell']) ?_;clear hHeld;refine hK.out _ _ (A5 ((Ay (by have:=lt_of_block CF2;omega)).trans (stay hxx CF2)) ((Ay (by have:=lt_of_block CT2;omega)).trans (stay hxx CT2)) ((Ay (by have:=lt_of_block CM2;omega)).trans (stay hxx CM2))) (fun hHeld=>?_);clear hK K
    try simp only[Act.put]
    refine wpAnyH_done (by kernel_rfl) ?_ _;go_wp2
    go_meet
    case rel=>exact⟨w2.heap.size,w2.heap.size+1,rfl,Dw HPB,(Ay (fun e=>hne e.symm)).trans HGB,hne,hla,hlg,Ej hxx hla _⟩
 case rest =>
  obtain⟨S,G,rfl,hS,hG,hne,hSl,hGl,hb3⟩:=hcut;have hB3:=QB hB2 hb3;have hs2:=hB2.size;have L3:=LsAt.made (b:=⟨fa1,fl1,fc1,fa2,fl2,fc2,tg,tc,ya,yn,yc,cl,nm,pa,pl,pc,r1,r2,lo,st,ca,x.code.length,cc,ha,hl',hc,ma,ml,mc,la,lc,T,Cd.readL x.code⟩) hS hG hne hc1;have CM3:=stay hb3 CM2;have hI3:=hI2.kp (Kp.of_below (e:=none) hb3) (by decide);have hSw:w.heap.size≤S:=by omega
  have hGw:w.heap.size≤G:=by omega
  clear hS hG CF2 CT2 CM2 hd2 HFO hB2 hb3 hI2 hne;obtain⟨m0,m1,m2,m3,m4,m5,m6,m7,m8,m9⟩:=Dc CM3;have lM:=lt_of_block CM3;simp at m0 m1 m2 m3 m4 m5 m6 m7 m8 m9;go_wp2_with fail
  refine(Aa HST _ hB3).mono ?_;rintro e w4 ⟨u,rfl,hu4,hb4⟩;obtain⟨ua,un,uc,va,vn,vc⟩:=u;have hbC:Below wc.heap.size wc (w4.alloc (O27 ua un uc va vn vc)):=hb4.alloc hb4.size _;have L4:=L3.below hbC;have hB4:=QB hB3 hbC;have hI4:=hI3.kp (Kp.of_below (e:=none) hbC) (by decide);have hu5:=hu4.below (QN (O27 ua un uc va vn vc));have CC4:=Ad w4 (O27 ua un uc va vn vc);have ha4:=Aa HAR la lc S G _ ⟨ua,un,uc,va,vn,vc⟩ x0 _ (hT.below hB4) L4 hu5;simp only[FrV.val]at ha4;have HA4:=Ac ha4;obtain⟨c0,c1⟩:=cl2 CC4;have lC:=lt_of_block CC4;simp at c0 c1;clear ha4 L3 CM3 hI3 hu4 hb4 hbC m0 m1 m2 m3 m4 m5 m6 m7 m8 m9 lM;go_wp2_with fail
  refine(Aa HA4).mono ?_;rintro e w5 ⟨rfl,L5,K5⟩;have hI5:InsAt w5 bb (.slice la (Cd.readL x.code).length lc) (Cd.readL x.code):=Ia hI4 L4 K5 (by decide) (by decide);have hB5:=hB4.trans (K5.below hSw hGw hB4.size);clear L4 K5 hI4 hu5 CC4 c0 c1 lC HA4 HAR HST;generalize Aaf T st x0 0 ⟨List.replicate x.code.length Ab4,false⟩=t0 at *;obtain⟨ME,hM1,hM2⟩:=Afd mu S G ⟨fa1,fl1,fc1,fa2,fl2,fc2,tg,tc,ya,yn,yc,cl,nm,pa,pl,pc,r1,r2,lo,st,ca,x.code.length,cc,ha,hl',hc,ma,ml,mc,la,lc,T,Cd.readL x.code⟩ x.code.length;have HM1:=Ac hM1;have HM2:=Ac hM2;clear hM1 hM2;go_wp2
  go_loopw [13] (fun s13 wr=>∃ (t:Zv) (ag:Bool),s13=.bool ag∧Hid (OK t)∧Hid ((if ag=true then done t else t)=R) ∧
    LsAt wr S G ⟨fa1,fl1,fc1,fa2,fl2,fc2,tg,tc,ya,yn,yc,cl,nm,pa,pl,pc,r1,r2,lo,st,ca,x.code.length,cc,ha,hl',hc,ma,ml,mc,la,lc,T,Cd.readL x.code⟩ x.code.length t∧InsAt wr bb (.slice la (Cd.readL x.code).length lc) (Cd.readL x.code)∧Below w.heap.size w wr∧True)
   (fun s13 wr=>ME s13 wr)
  case atStart=>exact⟨t0,true,rfl,H0,by unfold Hid;rw[if_pos rfl];exact Aa HR,L5,hI5,hB5,trivial⟩
  case round =>
   clear L5 hI5 hB5 H0 HR;obtain⟨t,ag,rfl,HO,HT,L6,hI6,hB6,-⟩:=hrel;cases ag with
   | true =>
    have hrn:=Aa HRN la lc bb S G t _ hB6 hSw hGw hI6 (Aa HO) L6;have hdn:=Aa HDN t (Aa HO);have hmu:=Aa HMU t (Aa HO);have hM0:=Aa HM1 _ _ L6;have hr:=Aa HT;rw[if_pos rfl,hdn]at hr;generalize hP:Zz lk (Cd.readL x.code) false t=P at *;obtain⟨P1,P2⟩:=P;simp only at hrn hr hmu;generalize (P2 && !P1.hop)=ag at *;have HRN2:=Ac hrn;have HT2:Hid ((if ag=true then done P1 else P1)=R):=hr
    have HMU2:=Ac hmu;have HM0:=Ac hM0;clear hrn hdn hmu hr hP HT hM0;go_wp2_with fail
    refine(Aa HRN2).mono ?_;rintro e w7 ⟨rfl,L7,HO7,K7⟩;have hI7:InsAt w7 bb (.slice la (Cd.readL x.code).length lc) (Cd.readL x.code):=Ia hI6 L6 K7 (by decide) (by decide);have hB7:=hB6.trans (K7.below hSw hGw hB6.size);have HO7':=Ac HO7;clear L6 hI6 hB6 K7 HO HO7;go_wp2
    go_roundw
    case rel=>exact⟨P1,ag,rfl,HO7',HT2,L7,hI7,hB7,trivial⟩
    case measure =>
     rw[Aa HM0];cases ag with
     | false=>rw[Aa HM2];omega
     | true=>rw[Aa HM1 _ _ L7];have:=Aa HMU2 rfl;omega
   | false =>
    have hr:t=R:=by have:=Aa HT;simpa using this
    subst hr;have x29:=Ab L6.blk 29;have lS6:=lt_of_block L6.blk;simp at x29;clear HT;cases hh:t.hop with
    | true =>
     rw[hh]at x29;have HH:=Ac hh;clear hh;go_wp2;refine bodyPost_ret (v:=.tuple #[.slice none 0 0,.bool false]) (by simp[results,Tryz.results42,go_sem]) rfl ?_;exact⟨none,0,0,by rw[Aa HH];rfl,fun h=>(by rw[Aa HH]at h;cases h),hB6⟩
    | false =>
     rw[hh]at x29;have HH:=Ac hh;have hmp:=Uj _ S G _ t _ L6;have HMP:=Ac hmp;clear hh hmp;go_wp2_with fail
     refine(Aa HMP).mono ?_;rintro e w8 ⟨a,n,c,ms,rfl,hms,hmr,hb8⟩;go_wp2;refine bodyPost_ret (v:=.tuple #[.slice a n c,.bool true]) (by simp[results,Tryz.results42,go_sem]) rfl ?_;have hs6:=hB6.size;exact⟨a,n,c,by rw[Aa HH];rfl,fun _=>⟨ms,hms,Ba hmr.1 hs6,hmr.2⟩,hB6.trans (hb8.mono hs6)⟩
theorem TyR.wg {n:Nat}{w w':World}{v:Value}{l:List (Int × Int)} (h:TyR w v l) (hg:WG n w w'):TyR w' v l:=by
 rcases h with h|⟨g,o,c,cur,hv,hb,h1,h2,h3⟩
 ·exact .inl h
 ·have hb':=hg.kp g cur _ hb (by decide) (by decide);refine .inr ⟨g,o,c,cur,hv,hb',h1,h2,fun j x hx=>?_⟩;rw[Ab hb',← Ab hb];exact h3 j x hx
theorem MpsR.wg {n b:Nat}{v:Value}{l:List (Rd.Mp × Value × Value)}{w w':World} (h:MpsR w b v l) (hg:WG n w w'):MpsR w' b v l :=
 ⟨Ch h.1 hg (by decide) (by decide),fun p hp=>⟨(h.2 p hp).1.wg hg,(h.2 p hp).2.wg hg⟩⟩
theorem Iz (n B:Nat) (l:List UInt8) (ts:List (Int × Int)) (a:Option Addr) (m c:Nat) (w:World) (hl:l.length+2*ts.length≤100000) (hW:WrAt w n B l) (hT:TyR w (.slice a m c) ts) :
  Calls Tryz.prog 44 #[.pointer (some ⟨B,0,none⟩),.slice a m c] w fun e w'=>e=.returned (.tuple #[])∧WrAt w' n B (l++Aah ts)∧WG n w w':=by
 obtain⟨hn1,-,-⟩:=hT.cap;subst hn1;go_enter Tryz.func44,Tryz.ntmps44;go_wp2
 go_loopw [8] (fun v wr=>∃ k:Nat,k≤ts.length∧v=.int .i64 (k:Int)∧WrAt wr n B (l++Aah (ts.take k))∧WG n w wr)
  (fun v _=>ts.length-(intOf v).toNat)
 case atStart=>exact⟨0,by omega,rfl,by simpa[Aah] using hW,WG.refl n w⟩
 case round =>
  obtain⟨k,hk,rfl,hWr,hG⟩:=hrel;have hlt:=hWr.lt;by_cases hkn:k<ts.length
  ·obtain⟨g,o,hg,hglt,hat⟩:=(hT.wg hG).at (by omega);obtain⟨x0,x1⟩:=hat k hkn;have hd:ts.take (k+1)=ts.take k++[ts[k]]:=by rw[List.take_succ_eq_append_getElem hkn]
   have hTL:(ts.take k).length=k:=by simp;omega
   generalize ts[k]=t at *;obtain⟨t1,t2⟩:=t;simp only at x0 x1;have hTy:=Abi (ts.take k);rw[hTL]at hTy;have HD:Hid (l++Aah (ts.take (k+1))=l++Aah (ts.take k)++Acu (t1,t2)):=by unfold Hid;rw[hd];simp[Aah]
   have hLL:(l++Aah (ts.take k)).length+2≤100000:=by rw[List.length_append,hTy];omega
   generalize l++Aah (ts.take k)=L at *;have hW1:=hWr.alloc (O7 t1 t2);have hG1:=hG.alloc (by omega) (O7 t1 t2);clear hat hd hTL hTy;subst hg;go_wp2_with fail
   refine(Lt n B L t1 t2 _ hLL hW1).mono ?_;rintro e w2 ⟨rfl,hW2,hg2⟩;have hG2:=hG1.trans hg2;rw[← Aa HD]at hW2;clear x0 x1 hg2 hG1 hG hW1 hWr;go_wp2
   go_roundw
   case rel=>exact⟨k+1,by omega,by go_num,hW2,hG2⟩
   case measure=>simp[intOf];omega
  ·have e:ts.take k=ts:=List.take_of_length_le (by omega);rw[e]at hWr;go_wp2
   go_end0
   exact⟨rfl,hWr,hG⟩
theorem Qy (n B b:Nat) (l:List UInt8) (ms:List (Rd.Mp × Value × Value)) (a:Option Addr) (m c:Nat) (w:World) (hl:l.length+(Ab7 (ms.map Prod.fst)).length≤100000) (hW:WrAt w n B l) (hT:MpsR w b (.slice a m c) ms) :
  Calls Tryz.prog 84 #[.pointer (some ⟨B,0,none⟩),.slice a m c] w fun e w'=>e=.returned (.tuple #[])∧WrAt w' n B (l++Ab7 (ms.map Prod.fst))∧WG n w w':=by
 obtain⟨xa,xc,hsh⟩:=Af hT.1;simp only[Value.slice.injEq]at hsh;obtain⟨rfl,hn1,rfl⟩:=hsh;subst hn1;unfold Ab7 at hl ⊢;rw[List.length_cons]at hl;rw[List.length_map];have hml:ms.length≤100000:=by
  have:∀ r:List (Rd.Mp × Value × Value),r.length≤((r.map Prod.fst).flatMap Abr).length:=by
   intro r
   induction r with
   | nil=>simp
   | cons x r ih=>simp only[List.map_cons,List.flatMap_cons,List.length_append,List.length_cons,Abr];omega
  have:=this ms;omega
 generalize hB0:Zw (ms.length:Int)=b0;have HB0:=Ac hB0;clear hB0;go_enter Tryz.func84,Tryz.ntmps84
 (go_wp2_with fail);refine(Bj n B l (ms.length:Int) _ (by omega) hW).mono ?_;rintro e w1 ⟨rfl,hW1,hg1⟩
 rw[Aa HB0]at hW1;go_wp2
 go_loopw [12] (fun v wr=>∃ k:Nat,k≤ms.length∧v=.int .i64 (k:Int)∧WrAt wr n B (l++[b0]++((ms.take k).map Prod.fst).flatMap Abr)∧WG n w wr)
  (fun v _=>ms.length-(intOf v).toNat)
 case atStart=>exact⟨0,by omega,rfl,by simpa using hW1,hg1⟩
 case round =>
  clear hW1 hg1;obtain⟨k,hk,rfl,hWr,hG⟩:=hrel;have hlt:=hWr.lt;by_cases hkn:k<ms.length
  ·obtain⟨g,hg,hglt,hbg,hcell⟩:=Ao (Ch hT.1 hG (by decide) (by decide)) (by omega);have x0:=(hcell _ (Fw ms k hkn 0 (by omega)).2).trans (Fw ms k hkn 0 (by omega)).1;have x1:=(hcell _ (Fw ms k hkn 1 (by omega)).2).trans (Fw ms k hkn 1 (by omega)).1;have x2:=(hcell _ (Fw ms k hkn 2 (by omega)).2).trans (Fw ms k hkn 2 (by omega)).1;have hd:ms.take (k+1)=ms.take k++[ms[k]]:=by rw[List.take_succ_eq_append_getElem hkn]
   have hbd:=Afa ms k hkn;have hty:=hT.2 _ (List.getElem_mem hkn);generalize ms[k]=t at *;obtain⟨⟨t1,t2,t3⟩,u2,u3⟩:=t;simp at x0 x1 x2;simp only at hty;obtain⟨ty2,ty3⟩:=hty;obtain⟨a2,c2,rfl⟩:=ty2.shape;obtain⟨a3,c3,rfl⟩:=ty3.shape;simp only[Abr,List.length_cons,List.length_append,Abi]at hbd;have HD:Hid (l++[b0]++((ms.take (k+1)).map Prod.fst).flatMap Abr=l++[b0]++((ms.take k).map Prod.fst).flatMap Abr++[Zw t1]++Aah t2++[Zw (t3.length:Int)]++Aah t3):=by unfold Hid;rw[hd];simp[Abr]
   have hLL:(l++[b0]++((ms.take k).map Prod.fst).flatMap Abr).length+1+2*t2.length+1+2*t3.length≤100000:=by rw[List.length_append,List.length_append];simp only[List.length_cons,List.length_nil];omega
   generalize l++[b0]++((ms.take k).map Prod.fst).flatMap Abr=L at *;have hW1:=hWr.alloc (O19 t1 a2 t2.length c2 a3 t3.length c3);have C1:=Ad wr (O19 t1 a2 t2.length c2 a3 t3.length c3);have hG1:=hG.alloc (by omega) (O19 t1 a2 t2.length c2 a3 t3.length c3);clear hcell hd hbg hbd;subst hg
   (go_wp2_with fail);refine(Bj n B L t1 _ (by omega) hW1).mono ?_;rintro e w2 ⟨rfl,hW2,hg2⟩
   have C2:=hg2.kp _ _ _ C1 (by decide) (by decide);have G2:=hG1.trans hg2;have y1:=Ab C2 1;have l2:=lt_of_block C2;simp at y1;go_wp2_with fail
   refine(Iz n B (L++[Zw t1]) t2 a2 t2.length c2 _ (by simp;omega) hW2 (ty2.wg G2)).mono ?_;rintro e w3 ⟨rfl,hW3,hg3⟩;have C3:=hg3.kp _ _ _ C2 (by decide) (by decide);have G3:=G2.trans hg3;have y2:=Ab C3 2;have l3:=lt_of_block C3;simp at y2
   (go_wp2_with fail);refine(Bj n B (L++[Zw t1]++Aah t2) (t3.length:Int) _ (by simp only[List.length_append,Abi,List.length_cons,List.length_nil];omega) hW3).mono ?_;rintro e w4 ⟨rfl,hW4,hg4⟩
   have C4:=hg4.kp _ _ _ C3 (by decide) (by decide);have G4:=G3.trans hg4;have z2:=Ab C4 2;have l4:=lt_of_block C4;simp at z2;go_wp2_with fail
   refine(Iz n B (L++[Zw t1]++Aah t2++[Zw (t3.length:Int)]) t3 a3 t3.length c3 _ (by simp only[List.length_append,Abi,List.length_cons,List.length_nil];omega) hW4 (ty3.wg G4)).mono ?_;rintro e w5 ⟨rfl,hW5,hg5⟩;have G5:=G4.trans hg5;rw[← Aa HD]at hW5;clear x0 x1 x2 y1 y2 z2 l2 l3 l4 C1 C2 C3 C4 hg2 hg3 hg4 hg5 hG1 hG hW1 hW2 hW3 hW4 hWr G2 G3 G4;go_wp2
   go_roundw
   case rel=>exact⟨k+1,by omega,by go_num,hW5,G5⟩
   case measure=>simp[intOf];omega
  ·have e:ms.take k=ms:=List.take_of_length_le (by omega);rw[e]at hWr;go_wp2
   go_end0
   exact⟨rfl,by simpa using hWr,hG⟩
structure PM.isR (m:PM) (x:Rd.Mth) (w:World) (bb:Nat):Prop where
 cl:m.cl=x.cl
 nm:m.nm=x.name
 r1:m.r1=x.result.1
 r2:m.r2=x.result.2
 lo:m.lo=x.locals
 st:m.st=x.stack
 pl:m.pl=x.params.length
 ps:TysAt w bb (.slice m.pa m.pl m.pc) x.params
 cn:m.cn=x.code.length
 code:IntsAt w bb (.slice m.ca m.cn m.cc) x.code
 hl:m.hl=x.handlers.length
 hs:HndsAt w bb (.slice m.ha m.hl m.hc) x.handlers
 ml:m.ml=x.maps.length
 mp:∃ l,l.map Prod.fst=x.maps∧MpsR w bb (.slice m.ma m.ml m.mc) l
theorem PM.isR.below {m:PM}{x:Rd.Mth}{w w':World}{bb:Nat} (h:m.isR x w bb) (hb:Below w.heap.size w w'):m.isR x w' bb:=by
 obtain⟨h1,h2,h3,h4,h5,h6,h7,h8,h9,h10,h11,h12,h13,l,hl,h14⟩:=h;have hk:=Kp.of_below (e:=none) (b:=bb) hb;exact⟨h1,h2,h3,h4,h5,h6,h7,h8.kp hk (by decide),h9,h10.kp hk (by decide),h11,h12.kp hk (by decide),h13,l,hl,h14.below hb⟩
theorem Nd (n B bb:Nat) (l:List UInt8) (m:PM) (x:Rd.Mth) (w:World) (hl:l.length+(Aby x).length≤100000) (hW:WrAt w n B l) (hm:m.isR x w bb) :
  Calls Tryz.prog 45 #[.pointer (some ⟨B,0,none⟩),m.val] w fun e w'=>e=.returned (.tuple #[])∧WrAt w' n B (l++Aby x)∧WG n w w':=by
 rw[Ae4]at hl;generalize hR:l++Aby x=R;unfold Aby Adr at hR;obtain⟨e1,e2,e3,e4,e5,e6,e7,hps,e8,hco,e9,hhs,e10,lm,hlm,hmp⟩:=hm;have hres:x.result=(m.r1,m.r2):=by rw[e3,e4]
 rw[hres,← e1,← e2,← e5,← e6]at hR;rw[← hlm]at hR hl;generalize x.params=ps at *;generalize x.code=co at *;generalize x.handlers=hs at *;clear hres e1 e2 e3 e4 e5 e6 e10 hlm x;obtain⟨cl,nm,pa,pl,pc,r1,r2,lo,st,ca,cn,cc,ha,hl',hc,ma,ml,mc⟩:=m;simp only at hR hps hco hhs hmp e7 e8 e9;simp only[PM.val];subst e7 e8 e9;have HR:=Ac hR;clear hR;have hlt:=hW.lt;have tl:=Abi ps;have tyl:(Acu (r1,r2)).length=2:=rfl;have C0:=Ad w (O20 cl nm pa ps.length pc r1 r2 lo st ca co.length cc ha hs.length hc ma ml mc);have G0:=(WG.refl n w).alloc (by omega) (O20 cl nm pa ps.length pc r1 r2 lo st ca co.length cc ha hs.length hc ma ml mc);have hW0:=hW.alloc (O20 cl nm pa ps.length pc r1 r2 lo st ca co.length cc ha hs.length hc ma ml mc);go_enter Tryz.func45,Tryz.ntmps45
 (go_wp2_with fail);refine(Bj n B l cl _ (by omega) hW0).mono ?_;rintro e w1 ⟨rfl,hW1,hg1⟩
 have C1:=hg1.kp _ _ _ C0 (by decide) (by decide);have G1:=G0.trans hg1;have d1:=lt_of_block C1;have y1:=Ab C1 1;simp at y1;clear hW0 hW
 (go_wp2_with fail);refine(Bj n B (l++[Zw cl]) nm _ (by (simp;omega)) hW1).mono ?_;rintro e w2 ⟨rfl,hW2,hg2⟩
 have C2:=hg2.kp _ _ _ C1 (by decide) (by decide);have G2:=G1.trans hg2;have d2:=lt_of_block C2;have y2:=Ab C2 2;simp at y2;clear y1 hW1 d1
 (go_wp2_with fail);refine(Bj n B (l++[Zw cl]++[Zw nm]) (ps.length:Int) _ (by (simp;omega)) hW2).mono ?_;rintro e w3 ⟨rfl,hW3,hg3⟩
 have C3:=hg3.kp _ _ _ C2 (by decide) (by decide);have G3:=G2.trans hg3;have d3:=lt_of_block C3;have y3:=Ab C3 2;simp at y3;clear y2 hW2 d2;go_wp2_with fail
 refine(Kk n B bb (l++[Zw cl]++[Zw nm]++[Zw (ps.length:Int)]) ps pa ps.length pc _ (by (simp;omega)) hW3 (Ch hps G3 (by decide) (by decide))).mono ?_;rintro e w4 ⟨rfl,hW4,hg4⟩;have C4:=hg4.kp _ _ _ C3 (by decide) (by decide);have G4:=G3.trans hg4;have d4:=lt_of_block C4;have y4:=Ab C4 3;have y5:=Ab C4 4;simp at y4 y5;clear y3 hW3 d3 hps;go_wp2_with fail
 refine(Lt n B (l++[Zw cl]++[Zw nm]++[Zw (ps.length:Int)]++Aah ps) r1 r2 _ (by (simp;omega)) hW4).mono ?_;rintro e w5 ⟨rfl,hW5,hg5⟩;have C5:=hg5.kp _ _ _ C4 (by decide) (by decide);have G5:=G4.trans hg5;have d5:=lt_of_block C5;have y6:=Ab C5 5;simp at y6;clear y4 y5 hW4 d4
 (go_wp2_with fail);refine(Bj n B (l++[Zw cl]++[Zw nm]++[Zw (ps.length:Int)]++Aah ps++Acu (r1,r2)) lo _ (by (simp;omega)) hW5).mono ?_;rintro e w6 ⟨rfl,hW6,hg6⟩
 have C6:=hg6.kp _ _ _ C5 (by decide) (by decide);have G6:=G5.trans hg6;have d6:=lt_of_block C6;have y7:=Ab C6 6;simp at y7;clear y6 hW5 d5
 (go_wp2_with fail);refine(Bj n B (l++[Zw cl]++[Zw nm]++[Zw (ps.length:Int)]++Aah ps++Acu (r1,r2)++[Zw lo]) st _ (by (simp;omega)) hW6).mono ?_;rintro e w7 ⟨rfl,hW7,hg7⟩
 have C7:=hg7.kp _ _ _ C6 (by decide) (by decide);have G7:=G6.trans hg7;have d7:=lt_of_block C7;have y8:=Ab C7 7;simp at y8;clear y7 hW6 d6;have hco7:=Ch hco G7 (by decide) (by decide);have hcl:co.length≤100000:=by omega
 (go_wp2_with fail);refine(Bj n B (l++[Zw cl]++[Zw nm]++[Zw (ps.length:Int)]++Aah ps++Acu (r1,r2)++[Zw lo]++[Zw st]) (co.length:Int) _ (by (simp;omega)) hW7).mono ?_;rintro e w8 ⟨rfl,hW8,hg8⟩
 have C8:=hg8.kp _ _ _ C7 (by decide) (by decide);have G8:=G7.trans hg8;have d8:=lt_of_block C8;have y9:=Ab C8 7;simp at y9;clear y8 hW7 d7 G0 G1 G2 G3 G4 G5 G6 G7 C0 C1 C2 C3 C4 C5 C6 C7 hg1 hg2 hg3 hg4 hg5 hg6 hg7 hg8 hco7;have hLL:(l++[Zw cl]++[Zw nm]++[Zw (ps.length:Int)]++Aah ps++Acu (r1,r2)++[Zw lo]++[Zw st]++[Zw (co.length:Int)]).length+co.length+(Adb hs).length+(Ab7 (lm.map Prod.fst)).length≤100000:=by (simp;omega)
 have HR2:Hid ((l++[Zw cl]++[Zw nm]++[Zw (ps.length:Int)]++Aah ps++Acu (r1,r2)++[Zw lo]++[Zw st]++[Zw (co.length:Int)])++co.map Zw++Adb hs++Ab7 (lm.map Prod.fst)=R):=by
  unfold Hid;rw[← Aa HR]
  simp
 clear HR;generalize (l++[Zw cl]++[Zw nm]++[Zw (ps.length:Int)]++Aah ps++Acu (r1,r2)++[Zw lo]++[Zw st]++[Zw (co.length:Int)])=L at *;go_wp2
 go_loopw [43] (fun v wr=>∃ k:Nat,k≤co.length∧v=.int .i64 (k:Int)∧WrAt wr n B (L++(co.take k).map Zw)∧WG n w wr∧wr.heap[w.heap.size]?=some (O20 cl nm pa ps.length pc r1 r2 lo st ca co.length cc ha hs.length hc ma ml mc))
  (fun v _=>co.length-(intOf v).toNat)
 case atStart=>exact⟨0,by omega,rfl,by simpa using hW8,G8,C8⟩
 case round =>
  clear hW8 G8 C8 d8;obtain⟨k,hk,rfl,hWr,hG,hC⟩:=hrel;have dC:=lt_of_block hC;by_cases hkn:k<co.length
  ·obtain⟨g,hg,hglt,hbg,hcell⟩:=Ao (Ch hco hG (by decide) (by decide)) (by omega);have x0:=hcell k (by simpa using hkn);rw[List.getElem?_map,List.getElem?_eq_getElem hkn]at x0;have hd:co.take (k+1)=co.take k++[co[k]]:=by rw[List.take_succ_eq_append_getElem hkn]
   have hTL:(co.take k).length=k:=by simp;omega
   generalize co[k]=t at *;simp at x0;have HD:Hid (L++(co.take (k+1)).map Zw=L++(co.take k).map Zw++[Zw t]):=by unfold Hid;rw[hd];simp
   have hLk:(L++(co.take k).map Zw).length≤100000:=by rw[List.length_append,List.length_map,hTL];omega
   generalize L++(co.take k).map Zw=LK at *;clear hcell hd hbg hTL y9;subst hg;go_wp2_with fail
   refine(Bj n B LK t _ hLk hWr).mono ?_;rintro e w9 ⟨rfl,hW9,hg9⟩;have hG9:=hG.trans hg9;have hC9:=hg9.kp _ _ _ hC (by decide) (by decide);rw[← Aa HD]at hW9;clear x0 hg9 hG hWr hC;go_wp2
   go_roundw
   case rel=>exact⟨k+1,by omega,by go_num,hW9,hG9,hC9⟩
   case measure=>simp[intOf];omega
  ·have e:co.take k=co:=List.take_of_length_le (by omega);rw[e]at hWr;have z7:=Ab hC 8;simp at z7;go_wp2_with fail
   refine(M8 n B bb (L++co.map Zw) hs ha hs.length hc _ (by (simp;omega)) hWr (Ch hhs hG (by decide) (by decide))).mono ?_;rintro e w9 ⟨rfl,hW9,hg9⟩;have G9:=hG.trans hg9;have C9:=hg9.kp _ _ _ hC (by decide) (by decide);have z8:=Ab C9 9;have d9:=lt_of_block C9;simp at z8;go_wp2_with fail
   refine(Qy n B bb (L++co.map Zw++Adb hs) lm ma ml mc _ (by (simp;omega)) hW9 (hmp.wg G9)).mono ?_;rintro e w10 ⟨rfl,hW10,hg10⟩;go_wp2
   go_end0
   exact⟨rfl,by rw[← Aa HR2];exact hW10,G9.trans hg10⟩
end Go.Proofs.YtcefiamkoincoaaGreat
