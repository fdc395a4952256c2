/- a part of the proofs -/
import Derived.Maps.AppendAt
import Derived.Deep.RegionHeld3
import Derived.Test.YtpcgnjolfahacaaGreatPk19
set_option maxRecDepth 100000
set_option maxHeartbeats 40000000
set_option linter.unusedVariables false
set_option linter.unusedSimpArgs false
namespace Go.Proofs.YtpcgnjolfahacaaGreat
open Go.RowKit
theorem Wo {α β:Type}{f:α→Option β}:∀ {l:List α},(l.filterMap f).Nodup→∀ {i j:Nat}{a b:α}{g:β},i≠j→l[i]?=some a→l[j]?=some b→f a=some g→f b≠some g
 | [],_,i,_,_,_,_,_,h,_,_=>by simp at h
 | x::r,hn,i,j,a,b,g,hij,hi,hj,ha=>by
  intro hb;have hr:(r.filterMap f).Nodup:=by
   cases hx:f x with
   | none=>rw[List.filterMap_cons_none hx]at hn;exact hn
   | some y=>rw[List.filterMap_cons_some hx]at hn;exact(List.nodup_cons.1 hn).2
  have hh:∀ {q:Nat}{c:α},f x=some g→r[q]?=some c→f c=some g→False:=fun {q c} hx hq hc=>by
   rw[List.filterMap_cons_some hx]at hn;exact(List.nodup_cons.1 hn).1 (List.mem_filterMap.2 ⟨c,List.mem_of_getElem? hq,hc⟩)
  cases i with
  | zero =>
   cases j with
   | zero=>exact hij rfl
   | succ j =>
    simp only[List.getElem?_cons_zero,Option.some.injEq]at hi;subst hi;exact hh ha (by simpa using hj) hb
  | succ i =>
   cases j with
   | zero =>
    simp only[List.getElem?_cons_zero,Option.some.injEq]at hj;subst hj;exact hh hb (by simpa using hi) ha
   | succ j=>exact Wo hr (i:=i) (j:=j) (by omega) (by simpa using hi) (by simpa using hj) ha hb
theorem Mc.Rows.obj {k:Mc.K}{objs:List (Int × List Int)}{wait:List Mc.Call}{out:List Int}{v:Mc.V}{w:World} (h:Mc.Rows k objs wait out v w) {i:Nat} (hi:i<objs.length) :
  ∃ g,v.oa=some ⟨g,0,none⟩∧g<w.heap.size∧w.cell? ⟨g,i*2,none⟩=some (.int .i64 (objs.getD i (0,[])).1)∧w.cell? ⟨g,i*2+1,none⟩=some (v.ov.getD i (.slice none 0 0))∧∀ j,w.frozen? ⟨g,j,none⟩=false:=by
 obtain⟨g,hg,hlt,_,hc⟩:=Ao h.objs (by omega);obtain⟨a,b⟩:=Pp objs v.ov h.ovl i hi;have hl:=Mu objs v.ov h.ovl;refine⟨g,hg,hlt,by rw[hc _ (by omega)];exact a,by rw[hc _ (by omega)];exact b,?_⟩;intro j;obtain⟨_,⟨hv,hn⟩|⟨g',cap,cur,hv,_,hgg,_⟩⟩:=h.objs
 ·omega
 ·rw[hg]at hv;simp only[Value.slice.injEq,Option.some.injEq,Addr.mk.injEq,and_true]at hv;obtain⟨rfl,_⟩:=hv;exact Ag hgg j
theorem Mc.Rows.flds_ne {k:Mc.K}{objs:List (Int × List Int)}{wait:List Mc.Call}{out:List Int}{v:Mc.V}{w:World} (h:Mc.Rows k objs wait out v w) {i j:Nat}{g:Nat} (hi:i<objs.length) (hj:j<objs.length) (hij:i≠j)
  (hg:(v.ov.getD i (.slice none 0 0)).ownBlock=some g):(v.ov.getD j (.slice none 0 0)).ownBlock≠some g:=by
 have hl:=h.ovl;have e:∀ q,q<objs.length→(Value.slice v.xa out.length v.xc::v.ov)[q+1]?=some (v.ov.getD q (.slice none 0 0)):=fun q hq=>by
  rw[List.getElem?_cons_succ,List.getD_eq_getElem?_getD,List.getElem?_eq_getElem (by omega)];rfl
 exact Wo h.nd (i:=i+1) (j:=j+1) (by omega) (e i hi) (e j hj) hg
theorem Mc.Rows.out_ne {k:Mc.K}{objs:List (Int × List Int)}{wait:List Mc.Call}{out:List Int}{v:Mc.V}{w:World} (h:Mc.Rows k objs wait out v w) {i:Nat}{g:Nat} (hi:i<objs.length)
  (hg:(v.ov.getD i (.slice none 0 0)).ownBlock=some g):(Value.slice v.xa out.length v.xc).ownBlock≠some g:=by
 have hl:=h.ovl;have e:(Value.slice v.xa out.length v.xc::v.ov)[i+1]?=some (v.ov.getD i (.slice none 0 0)):=by
  rw[List.getElem?_cons_succ,List.getD_eq_getElem?_getD,List.getElem?_eq_getElem (by omega)];rfl
 exact Wo h.nd (i:=i+1) (j:=0) (by omega) e rfl hg
theorem Lq (k:Mc.K) (S:Mc.S) (v:Mc.V) (r:Int) (w:World) (h:Mc.At k S v w) :
  Calls Tryz.prog 284 #[.pointer (some ⟨k.B,10,none⟩),.int .i64 r] w fun e w'=>e=.returned (.bool (Mc.has r S.objs))∧w'=w:=by
 have c10:=h.sees.c10;unfold Mc.has;by_cases h1:1≤r
 ·by_cases h2:r≤(S.objs.length:Int)
  ·clear h;go_enter Tryz.func284,Tryz.ntmps284;go_wp2;go_ret;exact⟨by simp[h1,h2],rfl⟩
  ·clear h;go_enter Tryz.func284,Tryz.ntmps284;go_wp2;go_ret;exact⟨by simp[h2],rfl⟩
 ·clear h;go_enter Tryz.func284,Tryz.ntmps284;go_wp2;go_ret;exact⟨by simp;omega,rfl⟩
theorem Ij {r:Int}{l:List (Int × List Int)}:Mc.has r l=true↔∃ i:Nat,i<l.length∧r=(i:Int)+1:=by
 unfold Mc.has;rw[Bool.and_eq_true,decide_eq_true_eq,decide_eq_true_eq]
 constructor
 ·intro ⟨a,b⟩;exact⟨(r-1).toNat,by omega,by omega⟩
 ·rintro ⟨i,a,rfl⟩;omega
theorem Gz (k:Mc.K) (S:Mc.S) (v:Mc.V) (r:Int) (w:World) (h:Mc.At k S v w) :
  Calls Tryz.prog 250 #[.pointer (some ⟨k.B,10,none⟩),.int .i64 r] w fun e w'=>e=.returned (.int .i64 (Mc.classOf r S.objs))∧w'=w:=by
 have hh:=Lq k S v r w h;have c10:=h.sees.c10;unfold Mc.classOf;cases hb:Mc.has r S.objs with
 | false =>
  rw[hb]at hh;rw[if_neg (by simp)];clear h hb;go_enter Tryz.func250,Tryz.ntmps250;go_wp2_with fail
  refine hh.mono ?_;rintro e w1 ⟨rfl,rfl⟩;go_wp2;go_ret;exact⟨rfl,rfl⟩
 | true =>
  rw[hb]at hh;rw[if_pos rfl];obtain⟨i,hi,rfl⟩:=Ij.1 hb;unfold Mc.obj;have e:((i:Int)+1-1).toNat=i:=by omega
  rw[e];obtain⟨g,hg,hlt,y0,y1,yf⟩:=h.rows.obj hi;rw[hg]at c10;have hi':(i:Int)<(S.objs.length:Int):=by omega
  have hl:S.objs.length≤9223372036854775807:=by
   obtain⟨_,⟨_,hn⟩|⟨_,cap,_,_,_,_,h3,h4,_⟩⟩:=h.rows.objs
   ·omega
   ·unfold maxLen at h4;omega
  clear h hb e yf y1 hg;generalize (S.objs.getD i (0,[])).1=cl at *;go_enter Tryz.func250,Tryz.ntmps250;go_wp2_with fail
  refine hh.mono ?_;rintro e w1 ⟨rfl,rfl⟩;go_wp2;go_ret;exact⟨rfl,rfl⟩
theorem Jb (k:Mc.K) (S:Mc.S) (v:Mc.V) (r s:Int) (w:World) (h:Mc.At k S v w) :
  Calls Tryz.prog 302 #[.pointer (some ⟨k.B,10,none⟩),.int .i64 r,.int .i64 s] w fun e w'=>e=.returned (.bool (Mc.hasField r s S.objs))∧w'=w:=by
 have hh:=Lq k S v r w h;have c10:=h.sees.c10;unfold Mc.hasField;cases hb:Mc.has r S.objs with
 | false =>
  rw[hb]at hh;rw[Bool.false_and];clear h hb;go_enter Tryz.func302,Tryz.ntmps302;go_wp2_with fail
  refine hh.mono ?_;rintro e w1 ⟨rfl,rfl⟩;go_wp2;go_ret;exact⟨rfl,rfl⟩
 | true =>
  rw[hb]at hh;rw[Bool.true_and];by_cases h0:0≤s
  ·obtain⟨i,hi,rfl⟩:=Ij.1 hb;unfold Mc.obj;have e:((i:Int)+1-1).toNat=i:=by omega
   rw[e,decide_eq_true h0,Bool.true_and];obtain⟨g,hg,hlt,y0,y1,yf⟩:=h.rows.obj hi;rw[hg]at c10;have hi':(i:Int)<(S.objs.length:Int):=by omega
   have hl:S.objs.length≤9223372036854775807:=by
    obtain⟨_,⟨_,hn⟩|⟨_,cap,_,_,_,_,h3,h4,_⟩⟩:=h.rows.objs
    ·omega
    ·unfold maxLen at h4;omega
   obtain⟨fa,fc,hsh⟩:=Ae (h.rows.flds i hi);rw[hsh]at y1;clear h hb e yf y0 hg hsh;generalize (S.objs.getD i (0,[])).2=fs at *;go_enter Tryz.func302,Tryz.ntmps302;go_wp2_with fail
   refine hh.mono ?_;rintro e w1 ⟨rfl,rfl⟩;go_wp2;go_ret;exact⟨rfl,rfl⟩
  ·rw[decide_eq_false h0,Bool.false_and];clear h hb;go_enter Tryz.func302,Tryz.ntmps302;go_wp2_with fail
   refine hh.mono ?_;rintro e w1 ⟨rfl,rfl⟩;go_wp2;go_ret;exact⟨rfl,rfl⟩
theorem J1 {r s:Int}{l:List (Int × List Int)}:Mc.hasField r s l=true↔∃ i j:Nat,i<l.length∧r=(i:Int)+1∧s=(j:Int)∧j<(l.getD i (0,[])).2.length:=by
 unfold Mc.hasField;rw[Bool.and_eq_true,Ij,Bool.and_eq_true,decide_eq_true_eq,decide_eq_true_eq]
 constructor
 ·rintro ⟨⟨i,hi,rfl⟩,h0,h1⟩;have e:((i:Int)+1-1).toNat=i:=by omega
  unfold Mc.obj at h1;rw[e]at h1;exact⟨i,s.toNat,hi,rfl,by omega,by omega⟩
 ·rintro ⟨i,j,hi,rfl,rfl,hj⟩;have e:((i:Int)+1-1).toNat=i:=by omega
  refine⟨⟨i,hi,rfl⟩,by omega,?_⟩;unfold Mc.obj;rw[e];omega
theorem Mc.Rows.ol {k:Mc.K}{objs:List (Int × List Int)}{wait:List Mc.Call}{out:List Int}{v:Mc.V}{w:World} (h:Mc.Rows k objs wait out v w):objs.length≤9223372036854775807:=by
 obtain⟨_,⟨_,hn⟩|⟨_,cap,_,_,_,_,h3,h4,_⟩⟩:=h.objs
 ·omega
 ·unfold maxLen at h4;omega
theorem Su (i:Nat) (l:List (Int × List Int)):Mc.obj ((i:Int)+1) l=l.getD i (0,[]):=by
 unfold Mc.obj;rw[show ((i:Int)+1-1).toNat=i by omega]
theorem Aaq (k:Mc.K) (S:Mc.S) (v:Mc.V) (r s:Int) (w:World) (h:Mc.At k S v w) :
  Calls Tryz.prog 282 #[.pointer (some ⟨k.B,10,none⟩),.int .i64 r,.int .i64 s] w fun e w'=>e=.returned (.int .i64 (Mc.getF r s S.objs))∧w'=w:=by
 have hh:=Jb k S v r s w h;have c10:=h.sees.c10;unfold Mc.getF;cases hb:Mc.hasField r s S.objs with
 | false =>
  rw[hb]at hh;rw[if_neg (by simp)];clear h hb;go_enter Tryz.func282,Tryz.ntmps282;go_wp2_with fail
  refine hh.mono ?_;rintro e w1 ⟨rfl,rfl⟩;go_wp2;go_ret;exact⟨rfl,rfl⟩
 | true =>
  rw[hb]at hh;rw[if_pos rfl];obtain⟨i,j,hi,rfl,rfl,hj⟩:=J1.1 hb;rw[Su,Int.toNat_natCast];obtain⟨g,hg,hlt,y0,y1,yf⟩:=h.rows.obj hi;rw[hg]at c10;have hi':(i:Int)<(S.objs.length:Int):=by omega
  have hl:=h.rows.ol;have hfl:=h.rows.flds i hi;obtain⟨fa,fc,hsh⟩:=Ae hfl;rw[hsh]at y1 hfl;obtain⟨gf,hgf,hgl,hfc⟩:=Jq hfl (by omega);have z0:=hfc j hj;have e:(S.objs.getD i (0,[])).2.getD j 0=(S.objs.getD i (0,[])).2[j]:=by rw[List.getD_eq_getElem?_getD,List.getElem?_eq_getElem hj];rfl
  rw[e];have hj':(j:Int)<((S.objs.getD i (0,[])).2.length:Int):=by omega
  clear h hb yf y0 hg hsh hfl hfc e;generalize (S.objs.getD i (0,[])).2=fs at *;generalize fs[j]=x at *;subst hgf;go_enter Tryz.func282,Tryz.ntmps282;go_wp2_with fail
  refine hh.mono ?_;rintro e w1 ⟨rfl,rfl⟩;go_wp2;go_ret;exact⟨rfl,rfl⟩
theorem Sf {w:World}{b g n c j:Nat}{l:List Int} (h:IntsAt w b (.slice (some ⟨g,0,none⟩) n c) l) (_hj:j<l.length) (x:Int) :
  IntsAt (w.setCell ⟨g,j,none⟩ (.int .i64 x)) b (.slice (some ⟨g,0,none⟩) n c) (l.set j x)∧w.frozen? ⟨g,j,none⟩=false:=by
 obtain⟨h1,⟨hv,hn⟩|⟨g',cap,cur,hv,hb,hg,hle,hm,hsz,htk⟩⟩:=h
 ·simp at hv
 ·simp only[Value.slice.injEq,Option.some.injEq,Addr.mk.injEq,and_true]at hv;obtain⟨rfl,rfl,rfl⟩:=hv;refine⟨⟨by simp,.inr ⟨g,c,_,by simp,hb,Al hg _,by simpa using hle,hm,by simpa using hsz,?_⟩⟩,Ag hg j⟩;simp only[Nat.mul_one]at htk ⊢;rw[List.length_set,List.map_set,← htk,Array.toList_setIfInBounds,List.take_set]
theorem Mc.Rows.putF {k:Mc.K}{objs:List (Int × List Int)}{wait:List Mc.Call}{out:List Int}{v:Mc.V}{w:World} (h:Mc.Rows k objs wait out v w) (ok:k.Ok) {i j gf n c:Nat} (hi:i<objs.length) (hj:j<(objs.getD i (0,[])).2.length)
  (hf:v.ov.getD i (.slice none 0 0)=.slice (some ⟨gf,0,none⟩) n c) (x:Int) :
  Mc.Rows k (objs.set i ((objs.getD i (0,[])).1,(objs.getD i (0,[])).2.set j x)) wait out v (w.setCell ⟨gf,j,none⟩ (.int .i64 x)):=by
 have hfl:=h.flds i hi;have ho:(v.ov.getD i (.slice none 0 0)).ownBlock=some gf:=by rw[hf];rfl
 have hge:=(hfl.lt gf ho).1;have hgl:=(hfl.lt gf ho).2;have hblk:∃ cs:List Value,w.heap[gf]?=some (.cells cs.toArray 3 (0,0)):=by
  rw[hf]at hfl;obtain⟨_,⟨hv,_⟩ | ⟨g',cap,cur,hv,_,hg,_⟩⟩:=hfl
  ·simp at hv
  ·simp only[Value.slice.injEq,Option.some.injEq,Addr.mk.injEq,and_true]at hv;obtain⟨rfl,_⟩:=hv;exact⟨cur.toList,by simpa using hg⟩
 obtain⟨cs,hblk⟩:=hblk;have hne:∀ q,q≠gf→(w.setCell ⟨gf,j,none⟩ (.int .i64 x)).heap[q]?=w.heap[q]?:=fun q hq=>Below.heap_setCell _ _ _ _ (by simpa using hq);have other:∀ {b e size n:Nat}{u:Value}{xs:List Value},w.ownsRow b e size u n xs→u.ownBlock≠some gf→(w.setCell ⟨gf,j,none⟩ (.int .i64 x)).ownsRow b e size u n xs:=fun hr hu=>Be hr (fun q hq=>hne q (fun e=>hu (e ▸ hq)));have byty:∀ {b e size n:Nat}{u:Value}{xs:List Value},w.ownsRow b e size u n xs→e≠3→u.ownBlock≠some gf:=fun hr he hu=>Az hr hblk he gf hu rfl;have hdat:(objs.set i ((objs.getD i (0,[])).1,(objs.getD i (0,[])).2.set j x)).map Prod.fst=objs.map Prod.fst:=by
  rw[List.map_set];apply List.ext_getElem?;intro q;rw[List.getElem?_set];by_cases e:i=q
  ·subst e;rw[if_pos rfl,if_pos (by simpa using hi),List.getElem?_map,List.getD_eq_getElem?_getD,List.getElem?_eq_getElem hi];rfl
  ·rw[if_neg e]
 have hB:=ok.Bs;refine⟨?_,by rw[List.length_set];exact h.ovl,by rw[List.length_set];exact h.obk,fun q hq=>?_,other h.wait (byty h.wait (by decide)),h.wwf,other h.out (h.out_ne hi ho),h.nd,fun q h1 h2 h3=>?_,?_,?_⟩
 ·rw[List.length_set,Kx _ _ _ hdat];exact other h.objs (byty h.objs (by decide))
 ·rw[List.length_set]at hq;by_cases e:q=i
  ·subst e;have e2:(objs.set q ((objs.getD q (0,[])).1,(objs.getD q (0,[])).2.set j x)).getD q (0,[])=((objs.getD q (0,[])).1,(objs.getD q (0,[])).2.set j x):=by
    rw[List.getD_eq_getElem?_getD,List.getElem?_set_self hi];rfl
   rw[e2,hf];rw[hf]at hfl;exact(Sf hfl hj x).1
  ·have e2:(objs.set i ((objs.getD i (0,[])).1,(objs.getD i (0,[])).2.set j x)).getD q (0,[])=objs.getD q (0,[]):=by
    rw[List.getD_eq_getElem?_getD,List.getElem?_set_ne (by omega),← List.getD_eq_getElem?_getD]
   rw[e2];exact other (h.flds q hq) (h.flds_ne hi hq (by omega) ho)
 ·rw[hne q (by omega)];exact h.keep q h1 h2 h3
 ·exact h.low.setCell (by simp;omega) _
 ·simp[World.setCell];exact h.szs
theorem Aaz (k:Mc.K) (S:Mc.S) (v:Mc.V) (r s x:Int) (w:World) (ok:k.Ok) (h:Mc.At k S v w) :
  Calls Tryz.prog 283 #[.pointer (some ⟨k.B,10,none⟩),.int .i64 r,.int .i64 s,.int .i64 x] w fun e w'=>e=.returned (.tuple #[])∧Mc.At k (S.withObjs (Mc.putF r s x S.objs)) v w':=by
 have hh:=Jb k S v r s w h;have c10:=h.sees.c10;unfold Mc.putF;cases hb:Mc.hasField r s S.objs with
 | false =>
  rw[hb]at hh;rw[if_neg (by simp)];clear hb;go_enter Tryz.func283,Tryz.ntmps283;go_wp2_with fail
  refine hh.mono ?_;rintro e w1 ⟨rfl,rfl⟩;go_wp2
  go_end0
  exact⟨rfl,h⟩
 | true =>
  rw[hb]at hh;rw[if_pos rfl];obtain⟨i,j,hi,rfl,rfl,hj⟩:=J1.1 hb;rw[Su,Int.toNat_natCast,show ((i:Int)+1-1).toNat=i by omega];obtain⟨g,hg,hlt,y0,y1,yf⟩:=h.rows.obj hi;rw[hg]at c10;have hi':(i:Int)<(S.objs.length:Int):=by omega
  have hl:=h.rows.ol;have hfl:=h.rows.flds i hi;obtain⟨fa,fc,hsh⟩:=Ae hfl;have hfl2:=hfl;rw[hsh]at y1 hfl2;obtain⟨gf,hgf,hgl,hfc⟩:=Jq hfl2 (by omega);have z0:=hfc j hj;have hj':(j:Int)<((S.objs.getD i (0,[])).2.length:Int):=by omega
  subst hgf;have zf:=(Sf hfl2 hj x).2;have hR:=h.rows.putF ok hi hj hsh x;have hgB:gf≠k.B:=by
   have ho:(v.ov.getD i (.slice none 0 0)).ownBlock=some gf:=by rw[hsh];rfl
   have:=(hfl.lt gf ho).1;have:=ok.Bs;omega
  have hA:Mc.At k (S.withObjs (S.objs.set i ((S.objs.getD i (0,[])).1,(S.objs.getD i (0,[])).2.set j x))) v (w.setCell ⟨gf,j,none⟩ (.int .i64 x)):=by
   refine⟨?_,h.wf,hR⟩;have hb:=h.blk;unfold Mid at hb ⊢;rw[Below.heap_setCell _ _ _ _ (by simpa using Ne.symm hgB)]
   simpa[Mc.S.withObjs] using hb
  have HA:=Ac hA;clear hb yf y0 hg hsh hfl hfl2 hfc hR hA h;generalize (S.objs.getD i (0,[])).2=fs at *;generalize fs[j]=x0 at *;go_enter Tryz.func283,Tryz.ntmps283;go_wp2_with fail
  refine hh.mono ?_;rintro e w1 ⟨rfl,rfl⟩;go_wp2
  go_end0
  exact⟨rfl,Aa HA⟩
theorem Tu {w:World}{b e size n g cap j:Nat}{xs:List Value} (h:w.ownsRow b e size (.slice (some ⟨g,0,none⟩) n cap) n xs) (u:Value):(w.setCell ⟨g,j,none⟩ u).ownsRow b e size (.slice (some ⟨g,0,none⟩) n cap) n (xs.set j u):=by
 obtain⟨h1,⟨hv,hn⟩|⟨g',cap',cur,hv,hb,hg,hle,hm,hsz,htk⟩⟩:=h
 ·simp at hv
 ·simp only[Value.slice.injEq,Option.some.injEq,Addr.mk.injEq,and_true,true_and]at hv;obtain⟨rfl,rfl⟩:=hv;refine⟨by simpa using h1,.inr ⟨g,cap,_,rfl,hb,Al hg _,hle,hm,by simpa using hsz,?_⟩⟩;rw[← htk,Array.toList_setIfInBounds,List.take_set]
theorem Sn {α β:Type}{f:α→Option β}:∀ (l:List α) (i:Nat) (y:α),(l.filterMap f).Nodup→(∀ g,f y=some g→∀ u∈l,f u≠some g)→((l.set i y).filterMap f).Nodup
 | [],_,_,h,_=>h
 | x::r,0,y,h,hy=>by
  rw[List.set_cons_zero];have hr:(r.filterMap f).Nodup:=by
   cases hx:f x with
   | none=>rw[List.filterMap_cons_none hx]at h;exact h
   | some z=>rw[List.filterMap_cons_some hx]at h;exact(List.nodup_cons.1 h).2
  cases hf:f y with
  | none=>rw[List.filterMap_cons_none hf];exact hr
  | some g =>
   rw[List.filterMap_cons_some hf];refine List.nodup_cons.2 ⟨fun hm=>?_,hr⟩;obtain⟨u,hu,hu'⟩:=List.mem_filterMap.1 hm;exact hy g hf u (by simp[hu]) hu'
 | x::r,i+1,y,h,hy=>by
  rw[List.set_cons_succ];have hy':∀ g,f y=some g→∀ u∈r,f u≠some g:=fun g hg u hu=>hy g hg u (by simp[hu]);cases hx:f x with
  | none =>
   rw[List.filterMap_cons_none hx]at h ⊢;exact Sn r i y h hy'
  | some z =>
   rw[List.filterMap_cons_some hx]at h ⊢;obtain⟨h1,h2⟩:=List.nodup_cons.1 h;refine List.nodup_cons.2 ⟨fun hm=>?_,Sn r i y h2 hy'⟩;obtain⟨u,hu,hu'⟩:=List.mem_filterMap.1 hm;rcases List.mem_or_eq_of_mem_set hu with hu | rfl
   ·exact h1 (List.mem_filterMap.2 ⟨u,hu,hu'⟩)
   ·exact hy z hu' x (by simp) hx
def Mc.V.setO (v:Mc.V) (i:Nat) (u:Value):Mc.V:=⟨v.oa,v.oc,v.wa,v.wc,v.xa,v.xc,v.ov.set i u⟩
theorem Mc.Rows.setF {k:Mc.K}{objs:List (Int × List Int)}{wait:List Mc.Call}{out:List Int}{v:Mc.V}{w:World} (h:Mc.Rows k objs wait out v w) (ok:k.Ok) {i g:Nat} (hi:i<objs.length) (hg:v.oa=some ⟨g,0,none⟩) {u:Value}{fs:List Int}
  (hu:IntsAt w k.w0.heap.size u fs) (hfr:∀ q,u.ownBlock=some q→∀ x∈(Value.slice v.xa out.length v.xc::v.ov),x.ownBlock≠some q) :
  Mc.Rows k (objs.set i ((objs.getD i (0,[])).1,fs)) wait out (v.setO i u) (w.setCell ⟨g,i*2+1,none⟩ u):=by
 have hob:=h.objs;rw[hg]at hob;have ho:(Value.slice (some ⟨g,0,none⟩) objs.length v.oc).ownBlock=some g:=rfl;have hblk:∃ cs:List Value,w.heap[g]?=some (.cells cs.toArray 215 (0,0)):=by
  obtain⟨_,⟨hv,_⟩|⟨g',cap,cur,hv,_,hg,_⟩⟩:=hob
  ·simp at hv
  ·simp only[Value.slice.injEq,Option.some.injEq,Addr.mk.injEq,and_true]at hv;obtain⟨rfl,_⟩:=hv;exact⟨cur.toList,by simpa using hg⟩
 obtain⟨cs,hblk⟩:=hblk;have hne:∀ q,q≠g→(w.setCell ⟨g,i*2+1,none⟩ u).heap[q]?=w.heap[q]?:=fun q hq=>Below.heap_setCell _ _ _ _ (by simpa using hq);have other:∀ {b e size n:Nat}{x:Value}{xs:List Value},w.ownsRow b e size x n xs→e≠215→(w.setCell ⟨g,i*2+1,none⟩ u).ownsRow b e size x n xs:=fun hr he=>Be hr (fun q hq=>hne q (Az hr hblk he q hq));have hB:=ok.Bs;have hobk:=h.obk g (by rw[hg];rfl);have hol:=h.ovl;have hge:=(hob.lt g rfl).1;refine⟨?_,by simp[Mc.V.setO,h.ovl],by rw[List.length_set];exact h.obk,fun q hq=>?_,other h.wait (by decide),h.wwf,other h.out (by decide),?_,fun q h1 h2 h3=>?_,?_,?_⟩
 ·rw[List.length_set];show (w.setCell ⟨g,i*2+1,none⟩ u).ownsRow _ _ 2 (.slice v.oa _ v.oc) _ (Bb _ (v.ov.set i u));rw[← M8 objs v.ov h.ovl i _ fs u rfl hi,hg];exact Tu hob u
 ·rw[List.length_set]at hq;show IntsAt _ _ ((v.ov.set i u).getD q (.slice none 0 0)) _;by_cases e:q=i
  ·subst e;rw[List.getD_eq_getElem?_getD,List.getElem?_set_self (by omega),List.getD_eq_getElem?_getD,List.getElem?_set_self hi];exact other hu (by decide)
  ·rw[List.getD_eq_getElem?_getD,List.getElem?_set_ne (by omega),← List.getD_eq_getElem?_getD,List.getD_eq_getElem?_getD (l:=objs.set i _),List.getElem?_set_ne (by omega),← List.getD_eq_getElem?_getD];exact other (h.flds q hq) (by decide)
 ·have:=Sn (f:=Value.ownBlock) (Value.slice v.xa out.length v.xc::v.ov) (i+1) u h.nd hfr;rw[List.set_cons_succ]at this;exact this
 ·rw[hne q (by omega)];exact h.keep q h1 h2 h3
 ·exact h.low.setCell (by simp;omega) _
 ·simp[World.setCell];exact h.szs
theorem Abj (k:Mc.K) (S:Mc.S) (v:Mc.V) (r:Int) (fa:Option Addr) (fc:Nat) (fs:List Int) (w:World) (ok:k.Ok) (h:Mc.At k S v w) (hu:IntsAt w k.w0.heap.size (.slice fa fs.length fc) fs)
  (hfr:∀ q,(Value.slice fa fs.length fc).ownBlock=some q→∀ x∈(Value.slice v.xa S.out.length v.xc::v.ov),x.ownBlock≠some q) :
  Calls Tryz.prog 280 #[.pointer (some ⟨k.B,10,none⟩),.int .i64 r,.slice fa fs.length fc] w fun e w'=>e=.returned (.tuple #[])∧∃ v',Mc.At k (S.withObjs (Mc.setF r fs S.objs)) v' w':=by
 have hh:=Lq k S v r w h;have c10:=h.sees.c10;unfold Mc.setF;cases hb:Mc.has r S.objs with
 | false =>
  rw[hb]at hh;rw[if_neg (by simp)];clear hb hu hfr;go_enter Tryz.func280,Tryz.ntmps280;go_wp2_with fail
  refine hh.mono ?_;rintro e w1 ⟨rfl,rfl⟩;go_wp2
  go_end0
  exact⟨rfl,v,h⟩
 | true =>
  rw[hb]at hh;rw[if_pos rfl];obtain⟨i,hi,rfl⟩:=Ij.1 hb;rw[Su,show ((i:Int)+1-1).toNat=i by omega];obtain⟨g,hg,hlt,y0,y1,yf⟩:=h.rows.obj hi;have hR:=h.rows.setF ok hi hg hu hfr;have hi':(i:Int)<(S.objs.length:Int):=by omega
  have hl:=h.rows.ol;have yf':=yf (i*2+1);have hgB:g≠k.B:=by
   have:=Az h.rows.objs h.blk (by decide) g (by rw[hg];rfl);exact this
  rw[hg]at c10;have hA:Mc.At k (S.withObjs (S.objs.set i ((S.objs.getD i (0,[])).1,fs))) (v.setO i (.slice fa fs.length fc)) (w.setCell ⟨g,i*2+1,none⟩ (.slice fa fs.length fc)):=by
   refine⟨?_,h.wf,hR⟩;have hb:=h.blk;unfold Mid at hb ⊢;rw[Below.heap_setCell _ _ _ _ (by simpa using Ne.symm hgB)]
   simpa[Mc.S.withObjs,Mc.pre,Mc.post,Mc.V.setO] using hb
  have HA:=Ac hA;generalize v.ov.getD i (.slice none 0 0)=old at *;clear hb yf y0 hg hR hA h hu hfr;go_enter Tryz.func280,Tryz.ntmps280;go_wp2_with fail
  refine hh.mono ?_;rintro e w1 ⟨rfl,rfl⟩;go_wp2
  go_end0
  exact⟨rfl,_,Aa HA⟩
theorem Tryz.infoObj:(Tryz.prog.info? 215).map (fun i=>(i.zero,i.size,i.bytes))=some (some (.agg #[.int .i64 0,.slice none 0 0]),2,32):=by kernel_rfl
theorem Mc.At.drewN {k:Mc.K}{S:Mc.S}{v:Mc.V}{w:World} (h:Mc.At k S v w) (ok:k.Ok) (n:Nat):Mc.At k S v (w.drewN n):=h.gr ok ⟨rfl,rfl,rfl,Nat.le_refl _,fun _ _=>rfl⟩
theorem Mc.At.drew {k:Mc.K}{S:Mc.S}{v:Mc.V}{w:World} (h:Mc.At k S v w) (ok:k.Ok):Mc.At k S v w.drew:=h.gr ok ⟨rfl,rfl,rfl,Nat.le_refl _,fun _ _=>rfl⟩
theorem Mc.Rows.addO {k:Mc.K}{objs:List (Int × List Int)}{wait:List Mc.Call}{out:List Int}{v:Mc.V}{w w':World} (h:Mc.Rows k objs wait out v w) (ok:k.Ok) {cs:List Value} (hB:w.heap[k.B]?=some (.cells cs.toArray 156 (0,0))) {cl:Int}{oa:Option Addr}{oc:Nat}
  (ho:w'.ownsRow k.wE.heap.size 215 2 (.slice oa (objs.length+1) oc) (objs.length+1) (Bb objs v.ov++[.int .i64 cl,.slice none 0 0])) (hg:w.grownBy w' (Value.slice v.oa objs.length v.oc).ownBlock)
  (hat:(Value.slice oa (objs.length+1) oc).ownBlock=(Value.slice v.oa objs.length v.oc).ownBlock∨(Value.slice oa (objs.length+1) oc).ownBlock=some w.heap.size) :
  Mc.Rows k (objs++[(cl,[])]) wait out ⟨oa,oc,v.wa,v.wc,v.xa,v.xc,v.ov++[.slice none 0 0]⟩ w'∧w'.heap[k.B]?=w.heap[k.B]?:=by
 have hob:=h.objs;have hblk:∀ g,(Value.slice v.oa objs.length v.oc).ownBlock=some g→∃ cs:List Value,w.heap[g]?=some (.cells cs.toArray 215 (0,0)):=fun g hgo=>by
  obtain⟨_,⟨hv,_⟩|⟨g',cap,cur,hv,_,hg,_⟩⟩:=hob
  ·rw[hv]at hgo;simp[Value.ownBlock]at hgo
  ·rw[hv]at hgo;simp only[Value.ownBlock,Option.some.injEq]at hgo;subst hgo;exact⟨cur.toList,by simpa using hg⟩
 have other:∀ {b e size n:Nat}{x:Value}{xs:List Value},w.ownsRow b e size x n xs→e≠215→w'.ownsRow b e size x n xs:=fun hr he=>Be hr (fun q hq=>hg.block q (hr.lt q hq).2 (fun e=>by
  obtain⟨cs,hc⟩:=hblk q e.symm;exact Az hr hc he q hq rfl))
 have hBs:=ok.Bs;have hol:=h.ovl;have hbB:w'.heap[k.B]?=w.heap[k.B]?:=hg.block k.B (lt_of_block hB) (fun e=>Az hob hB (by decide) k.B e.symm rfl);refine⟨⟨?_,by simp[h.ovl],fun j hj=>?_,fun q hq=>?_,other h.wait (by decide),h.wwf,other h.out (by decide),?_,fun q h1 h2 h3=>?_,?_,Nat.le_trans h.szs hg.size⟩,hbB⟩
 ·rw[List.length_append,List.length_singleton,Ik _ _ h.ovl];exact ho
 ·rw[List.length_append,List.length_singleton]at hj;rcases hat with e | e
  ·rw[e]at hj;exact h.obk j hj
  ·rw[e]at hj;have:w.heap.size=j:=by simpa using hj
   exact .inr (by rw[← this];exact h.szs)
 ·rw[List.length_append,List.length_singleton]at hq;by_cases e:q<objs.length
  ·show IntsAt _ _ ((v.ov++[Value.slice none 0 0]).getD q _) _;rw[List.getD_eq_getElem?_getD,List.getElem?_append_left (by omega),← List.getD_eq_getElem?_getD,List.getD_eq_getElem?_getD (l:=objs++_),List.getElem?_append_left e,← List.getD_eq_getElem?_getD];exact other (h.flds q e) (by decide)
  ·have eq:q=objs.length:=by omega
   subst eq;show IntsAt _ _ ((v.ov++[Value.slice none 0 0]).getD _ _) _;rw[List.getD_eq_getElem?_getD,List.getElem?_append_right (by omega),List.getD_eq_getElem?_getD (l:=objs++_),List.getElem?_append_right (by omega),hol];simp only[Nat.sub_self,List.getElem?_cons_zero,Option.getD_some];exact World.ownsRow_nil _ _ _ _
 ·have e:(Value.slice v.xa out.length v.xc::(v.ov++[.slice none 0 0])).filterMap Value.ownBlock=(Value.slice v.xa out.length v.xc::v.ov).filterMap Value.ownBlock:=by
   rw[← List.cons_append,List.filterMap_append];simp[Value.ownBlock]
  rw[e];exact h.nd
 ·rw[hg.block q (Nat.lt_of_lt_of_le h1 h.szs) (fun e=>by rcases h.obk q e.symm with e' | e' <;> omega)];exact h.keep q h1 h2 h3
 ·exact⟨hg.os.trans h.low.os,hg.tape.trans h.low.tape,hg.output.trans h.low.output,Nat.le_trans h.low.size hg.size,
   fun q hq=>(hg.block q (Nat.lt_of_lt_of_le hq h.low.size) (fun e=>by have:=(hob.lt q e.symm).1;omega)).trans (h.low.block q hq)⟩
theorem Se (k:Mc.K) (S:Mc.S) (v:Mc.V) (cl:Int) (w:World) (ok:k.Ok) (h:Mc.At k S v w) (hol:S.objs.length≤1000) (hr:k.room≤(S.objs.length:Int)-5) :
  Calls Tryz.prog 278 #[.pointer (some ⟨k.B,10,none⟩),.int .i64 cl] w fun e w'=>e=.returned (.tuple #[.int .i64 0,.bool false])∧Mc.At k S v w':=by
 have c10:=h.sees.c10;have c11:=h.sees.c11;obtain⟨r0,r1⟩:=ok.rm;go_enter Tryz.func278,Tryz.ntmps278;go_wp2
 go_quiet (fail)
 go_wp2;go_ret2;exact⟨rfl,h.drewN ok _⟩
theorem Aag (k:Mc.K) (S:Mc.S) (v:Mc.V) (cl:Int) (w:World) (ok:k.Ok) (h:Mc.At k S v w) (hol:S.objs.length≤1000) (hr:¬ k.room≤(S.objs.length:Int)-5) :
  Calls Tryz.prog 278 #[.pointer (some ⟨k.B,10,none⟩),.int .i64 cl] w fun e w'=>e=.returned (.tuple #[.int .i64 ((S.objs.length:Int)+1),.bool true])∧∃ v',Mc.At k (S.withObjs (S.objs++[(cl,[])])) v' w':=by
 have c10:=h.sees.c10;have c11:=h.sees.c11;have f10:=h.sees.fr 10;obtain⟨r0,r1⟩:=ok.rm;obtain⟨i0,hi,hz0,hz1,hz2⟩:=info_parts Tryz.infoObj;have hbl:=h.rows.low.size;have HA:Hid (Mc.At k S v w):=h;have hob:=h.rows.objs;clear h;go_enter Tryz.func278,Tryz.ntmps278;go_wp2
 go_quiet (fail)
 rename_i nq;have h1:=(Aa HA).drewN ok nq;have hob1:=h1.rows.objs;have H1:=Ac h1;clear h1 hob;go_wp2_with (at_builtin;refine wpList_append_own_at _ rfl _ _ 146 rfl k.wE.heap.size 215 i0 _ 2 32 Tryz.underlying146 hi hz0 hz1 hz2 rfl (by decide) _ _ _ rfl (hob1.alloc _) ⟨w.heap.size,0,none⟩ 1 1 [.int .i64 cl,.slice none 0 0] rfl rfl ?c1 ?c2 ?c3 ?c4 ?c5 ?_)
 case c1=>exact Ar _ _ _ _ rfl
 case c2=>intro u hu;simp at hu;rcases hu with rfl | rfl<;>rfl
 case c3=>unfold maxLen;omega
 case c4=>omega
 case c5=>simp;omega
 intro v' w2 hown2 hgrow _ hat;obtain⟨oa,oc,rfl⟩:=Ae hown2;have h2:=(Aa H1).gr ok (QN (O24 cl none 0 0));obtain⟨hR,hBB⟩:=h2.rows.addO ok h2.blk hown2 hgrow (by simpa using hat);have hM:Mid w2 k.B 156 (Mc.pre k S.read S.objs.length v) S.now.cells (Mc.post v S.wait.length S.out.length S.ended S.status S.value S.steps):=hBB.trans h2.blk;have hM0:=hM.front.cell (o:=0) (j:=10) rfl (by rw[Bj];omega);have hM1:=hM.free 10;have HM:=Ac hM;have HR:=Ac hR;have HW:=Ac h2.wf;simp[Mc.pre]at hM0;clear hM hR h2 H1 HA hown2 hgrow hat hBB hob1;go_wp2;go_ret2;refine⟨rfl,⟨oa,oc,v.wa,v.wc,v.xa,v.xc,v.ov++[.slice none 0 0]⟩,?_⟩;exact Yn (Aa HM) (Bj _ _ _ _) (Aa HW) ok (by omega) _ rfl (by simp[Mc.pre,Mc.S.withObjs]) rfl (Aa HR)
theorem Uc (c:Int) (w:World) (h0:0≤c) (h1:c≤100):Calls Tryz.prog 277 #[.int .i64 c] w fun e w'=>e=.returned (.int .i64 (c-2+1))∧w'=w:=by
 go_enter Tryz.func277,Tryz.ntmps277;go_wp2;go_ret;exact⟨rfl,rfl⟩
theorem Im:∀ (W:List Mc.Call),(∀ c∈W,Mc.Wf c)→(W.flatMap Mc.Call.cells).length=W.length*20
 | [],_=>rfl
 | c::r,h=>by
  rw[List.flatMap_cons,List.length_append,Im r (fun x hx=>h x (by simp[hx])),(h c (by simp)).len,List.length_cons];omega
theorem Rw {w:World}{b e size n m cap:Nat}{a:Option Addr}{xs ys:List Value} (h:w.ownsRow b e size (.slice a n cap) n (xs++ys)) (hx:xs.length=m*size) (hm:m≤n) (hn:0<n):w.ownsRow b e size (.slice a m cap) m xs:=by
 obtain⟨h1,⟨hv,h0⟩|⟨g,cap',cur,hv,hb,hg,hle,hmx,hsz,htk⟩⟩:=h
 ·omega
 ·simp only[Value.slice.injEq,true_and]at hv;obtain⟨rfl,rfl⟩:=hv;refine⟨hx,.inr ⟨g,cap,cur,rfl,hb,hg,by omega,hmx,hsz,?_⟩⟩;have:=congrArg (List.take (m*size)) htk;rw[List.take_take,Nat.min_eq_left (Nat.mul_le_mul_right _ hm),← hx,List.take_left]at this;rw[← hx];exact this
theorem Mc.Rows.last {k:Mc.K}{objs:List (Int × List Int)}{W:List Mc.Call}{c:Mc.Call}{out:List Int}{v:Mc.V}{w:World} (h:Mc.Rows k objs (W++[c]) out v w) :
  ∃ g,v.wa=some ⟨g,0,none⟩∧g<w.heap.size∧w.rangeAt g (W.length*20) c.cells∧W.length<v.wc∧v.wc≤maxLen:=by
 have hw:=h.wait;obtain⟨g,hg,hlt,_,hc⟩:=Ao hw (by simp);have hl:=Im W (fun x hx=>h.wwf x (by simp[hx]));refine⟨g,hg,hlt,fun j u hu=>?_,?_⟩
 ·have hj:=(List.getElem?_eq_some_iff.1 hu).1;rw[hc _ (by rw[List.flatMap_append,List.length_append,hl];simp;omega),List.flatMap_append,List.getElem?_append_right (by omega),hl,show W.length*20+j-W.length*20=j by omega]
  simpa using hu
 ·obtain⟨_,⟨_,h0⟩|⟨g',cap',cur,hv,_,_,hle,hmx,_⟩⟩:=hw
  ·simp at h0
  ·simp only[Value.slice.injEq]at hv;obtain⟨_,_,rfl⟩:=hv;simp at hle;exact⟨by omega,hmx⟩
theorem Mc.Rows.drop {k:Mc.K}{objs:List (Int × List Int)}{W:List Mc.Call}{c:Mc.Call}{out:List Int}{v:Mc.V}{w:World} (h:Mc.Rows k objs (W++[c]) out v w):Mc.Rows k objs W out v w:=by
 refine⟨h.objs,h.ovl,h.obk,h.flds,?_,fun x hx=>h.wwf x (by simp[hx]),h.out,h.nd,h.keep,h.low,h.szs⟩;have hw:=h.wait;rw[List.flatMap_append]at hw;exact Rw hw (Im W (fun x hx=>h.wwf x (by simp[hx]))) (by simp) (by simp)
theorem Ri (k:Mc.K) (S:Mc.S) (v:Mc.V) (w:World) (h:Mc.At k S v w) (h0:S.wait=[]) :
  Calls Tryz.prog 252 #[.pointer (some ⟨k.B,0,none⟩)] w fun e w'=>e=.returned (.bool false)∧Mc.At k S v w':=by
 have c32:=h.sees.c32;rw[h0]at c32;simp at c32;clear h0;go_enter Tryz.func252,Tryz.ntmps252;go_wp2;go_ret;exact⟨rfl,h⟩
theorem J3 (k:Mc.K) (S:Mc.S) (v:Mc.V) (W:List Mc.Call) (c:Mc.Call) (w:World) (ok:k.Ok) (h:Mc.At k S v w) (h0:S.wait=W++[c]) :
  Calls Tryz.prog 252 #[.pointer (some ⟨k.B,0,none⟩)] w fun e w'=>e=.returned (.bool true)∧Mc.At k ⟨S.read,S.objs,c,W,S.ended,S.out,S.status,S.value,S.steps⟩ v w':=by
 have c32:=h.sees.c32;have hr:=h.rows;rw[h0]at c32 hr;obtain⟨g,hg,hglt,hrg,hwc,hwm⟩:=hr.last;have hf:Mc.Wf c:=hr.wwf c (by simp);have hd:=hr.drop;have hblk:=h.blk;have hwl:S.wait.length=W.length+1:=by rw[h0];simp
 rw[hwl]at hblk;have hM:=Es c.cells _ S.now.cells _ w (by rw[h.wf.len,hf.len]) hblk;rw[Bj]at hM;have hG:=Fv k.B c.cells 12 w;have hR:=hd.gr ok h.blk hG;have hth:w.there k.B 12 c.cells.toArray.size:=h.blk.there (o:=12) rfl (by rw[h.wf.len];simp[hf.len]);have h20:(Tryz.prog.info? 152).map (·.size)=some c.cells.toArray.size:=by rw[Tryz.infoCall];simp[hf.len]
 have h20':(Tryz.prog.info? 152).map (·.size)=some c.cells.length:=by rw[Tryz.infoCall];simp[hf.len]
 have hall:=all_oneCell_toArray (Dt c);have hA:=Gh (j:=0) (S':=⟨S.read,S.objs,c,W,S.ended,S.out,S.status,S.value,S.steps⟩) (v':=v) hM (Bj _ _ _ _) (Cv _ _ _ _ _ _ _) hf ok (by omega) (.slice v.wa W.length v.wc) rfl rfl rfl hR;have z32:=hM.tail.cell (o:=32) (j:=0) (by rw[List.length_append,Bj,hf.len]) (by rw[Cv];omega);have zf:=hM.free 32;have e32:(Mc.post v (W.length+1) S.out.length S.ended S.status S.value S.steps)[0]?=some (.slice v.wa (W.length+1) v.wc):=rfl;rw[e32,hg]at z32;rw[hg]at c32 hA;simp only[List.length_append,List.length_singleton,Nat.add_zero]at c32 z32 hA;have HA:=Ac hA;have hwm':v.wc≤9223372036854775807:=by unfold maxLen at hwm;omega
 clear hM hG hR hA hblk hr hd h0 hg e32 h;go_enter Tryz.func252,Tryz.ntmps252;go_wp2_with (first | (refine wpList_load_mid (by rfl) 152 (.tmp 18) (by rfl) g (W.length*20) (by rfl) c.cells _ hrg Tryz.underlying152 (by rfl) h20' ?_) | (refine wpList_store_mid (by rfl) 152 (.tmp 21) (.tmp 19) (by rfl) k.B 12 c.cells.toArray (by rfl) (by rfl) hth h20 hall ?_))
 go_ret;exact⟨rfl,Aa HA⟩
def Mc.ans (r:Option Nat):Int:=match r with
 | none=>0
 | some t=>(t:Int)
theorem Tk (k:Mc.K) (S:Mc.S) (v:Mc.V) (cl:Int) (w:World) (ok:k.Ok) (h:Mc.At k S v w) (hH:(k.E.meth S.now.meth).handlers.length≤1000∧∀ x∈(k.E.meth S.now.meth).handlers,0≤x.target) :
  Calls Tryz.prog 285 #[.pointer (some ⟨k.B,0,none⟩),.int .i64 cl] w fun e w'=>e=.returned (.tuple #[.int .i64 (Mc.ans (k.E.target cl S.now)),.bool (k.E.target cl S.now).isSome])∧Below w.heap.size w w':=by
 have hm:=Ec k S v S.now.meth w ok h;have c12:=h.sees.c12;have c13:=h.sees.c13;have c2:=h.sees.c2;have c3:=h.sees.c3;have hT:=h.rows.tree ok;have hlt:=h.blk.lt;have hTl:=ok.tl;unfold Mc.E.target;have eT:k.E.T=k.T:=rfl;rw[eT];generalize k.E.meth S.now.meth=M at *;generalize hr:Mc.targetOf k.T cl S.now.pos M.handlers=r;have HR:Hid (Mc.targetOf k.T cl S.now.pos (M.handlers.drop 0)=r):=hr;obtain⟨hh1,hh2⟩:=hH;have HM:=Ac hm;clear hm h hr eT;go_enter Tryz.func285,Tryz.ntmps285;go_wp2_with fail
 refine(Aa HM).mono ?_;rintro e w1 ⟨m,rfl,hM,hb1⟩;have hHs:=hM.hs;have hHl:=hM.hl;obtain⟨m1,m2,m3,m4,m5,m6,m7,m8,m9,ma,mb,mc,md,me,mf,mg,mh,mi⟩:=m;simp only at hHs hHl;subst hHl;simp only[PM.val];have hfd:∀ w:World,(Instr.field 133 (.agg #[.int .i64 m1,.int .i64 m2,.slice m3 m4 m5,.int .i64 m6,.int .i64 m7,.int .i64 m8,.int .i64 m9,.slice ma mb mc,.slice md M.handlers.length mf,.slice mg mh mi]) 7).run Tryz.prog w=.ok (.slice md M.handlers.length mf) w:=fun _=>by kernel_rfl
 clear HM hM;go_wp2;clear hfd
 go_loopw [17] (fun i wr=>∃ q:Nat,q≤M.handlers.length∧i=.int .i64 (q:Int)∧Hid (Mc.targetOf k.T cl S.now.pos (M.handlers.drop q)=r)∧Below w1.heap.size w1 wr)
  (fun i _=>M.handlers.length-(intOf i).toNat)
 case atStart=>exact⟨0,by omega,rfl,HR,Below.refl _ _⟩
 case round =>
  obtain⟨q,hq,rfl,HR,hB⟩:=hrel;have hBw:=QB hb1 hB;by_cases hqn:q<M.handlers.length
  ·obtain⟨g,hg,hglt,_,hcell⟩:=Ao hHs (by omega);have y0:=(hB.cell (p:=⟨g,q*4+0,none⟩) hglt).trans ((hcell _ (As M.handlers q hqn 0 (by omega)).2).trans (As M.handlers q hqn 0 (by omega)).1);have y1:=(hB.cell (p:=⟨g,q*4+1,none⟩) hglt).trans ((hcell _ (As M.handlers q hqn 1 (by omega)).2).trans (As M.handlers q hqn 1 (by omega)).1);have y2:=(hB.cell (p:=⟨g,q*4+2,none⟩) hglt).trans ((hcell _ (As M.handlers q hqn 2 (by omega)).2).trans (As M.handlers q hqn 2 (by omega)).1);have y3:=(hB.cell (p:=⟨g,q*4+3,none⟩) hglt).trans ((hcell _ (As M.handlers q hqn 3 (by omega)).2).trans (As M.handlers q hqn 3 (by omega)).1);have hmem:=hh2 _ (List.getElem_mem hqn);have hd:M.handlers.drop q=M.handlers[q]::M.handlers.drop (q+1):=by rw[List.drop_eq_getElem_cons hqn]
   have hr:=Aa HR;rw[hd,Mc.targetOf]at hr;generalize M.handlers[q]=x at *;obtain⟨h1,h2,h3,h4⟩:=x;simp only at y0 y1 y2 y3 hmem hr;have d2:=(hBw.cell (p:=⟨k.B,2,none⟩) hlt).trans c2;have d3:=(hBw.cell (p:=⟨k.B,3,none⟩) hlt).trans c3;have d13:=(hBw.cell (p:=⟨k.B,13,none⟩) hlt).trans c13;have hlr:k.B<wr.heap.size:=Nat.lt_of_lt_of_le hlt hBw.size;have hT2:=hT.below hBw;have hCo:=fun w=>Ir ⟨h1,h2,h3,h4⟩ (S.now.pos:Int) w;have hWi:=fun w hT=>Df (ya:=k.ya) (yn:=k.lf.length) (yc:=k.yc) k.T k.tg k.tc cl h4 w hTl hT;have qb:(q:Int)<(M.handlers.length:Int):=by omega
   have hBx:=hB.alloc hB.size (O13 h1 h2 h3 h4);have CH:=Ad wr (O13 h1 h2 h3 h4);subst hg;simp at y0 y1 y2 y3;clear hcell hd HR hHs;have lH:=lt_of_block CH;obtain⟨f0,f1,f2,f3⟩:=cl4 CH;have hba:Below wr.heap.size wr (wr.alloc (O13 h1 h2 h3 h4)):=QN _;have e2:=(hba.cell (p:=⟨k.B,2,none⟩) hlr).trans d2;have e3:=(hba.cell (p:=⟨k.B,3,none⟩) hlr).trans d3;have e13:=(hba.cell (p:=⟨k.B,13,none⟩) hlr).trans d13;have hTA:=hT2.below hba;have lB:k.B<(wr.alloc (O13 h1 h2 h3 h4)).heap.size:=Nat.lt_of_lt_of_le hlr hba.size;have hBA:=QB hBw hba;have HBX:Hid (Below w1.heap.size w1 (wr.alloc (O13 h1 h2 h3 h4))):=hBx;generalize hcv:Af2 ⟨h1,h2,h3,h4⟩ (S.now.pos:Int)=CV at *;generalize hwi:Tr.within k.T cl h4=WI at *;clear hcv hwi;cases CV with
   | false =>
    rw[Bool.false_and,if_neg (by simp)]at hr;have HR2:=Ac hr;clear hr hWi;go_wp2;generalize (wr.alloc (O13 h1 h2 h3 h4))=wA at *;simp at f0 f1 f2 f3;refine wp_region_held_drew (S:=(fun w'=>w'.cell? ⟨wr.heap.size,0,none⟩=some (.int .i64 h1)∧w'.cell? ⟨wr.heap.size,1,none⟩=some (.int .i64 h2)∧w'.cell? ⟨wr.heap.size,2,none⟩=some (.int .i64 h3)∧w'.cell? ⟨wr.heap.size,3,none⟩=some (.int .i64 h4)∧w'.cell? ⟨k.B,13,none⟩=some (.int .i64 (S.now.pos:Int))∧w'.cell? ⟨k.B,2,none⟩=some (.slice (some ⟨k.tg,0,none⟩) k.T.length k.tc)∧w'.cell? ⟨k.B,3,none⟩=some (.slice k.ya k.lf.length k.yc))) (by kernel_rfl) ⟨f0,f1,f2,f3,e13,e2,e3⟩ (fun hHeld=>?_);refine wpAnyH_take (i:=0) (oi:=⟨_,_,_,_,_,_⟩) (v:=.agg #[.int .i64 h1,.int .i64 h2,.int .i64 h3,.int .i64 h4]) rfl (by kernel_rfl) (by kernel_rfl) (by kernel_rfl) (fun _ _ _ h=>h) (Or.inl ⟨by rfl,?_⟩) hHeld ?_
    ·intro w' hSw
     try dsimp only at hSw
     go_simp
    try simp only[QX]
    refine wpAnyH_take (i:=1) (oi:=⟨_,_,_,_,_,_⟩) (v:=.pointer (some ⟨k.B,0,none⟩)) rfl (by kernel_rfl) (by kernel_rfl) (by kernel_rfl) (fun _ _ _ h=>h) (Or.inl ⟨by rfl,?_⟩) hHeld ?_
    ·intro w' hSw
     try dsimp only at hSw
     go_simp
    try simp only[QX]
    refine wpAnyH_take (i:=2) (oi:=⟨_,_,_,_,_,_⟩) (v:=.pointer (some ⟨k.B,0,none⟩)) rfl (by kernel_rfl) (by kernel_rfl) (by kernel_rfl) (fun _ _ _ h=>h) (Or.inl ⟨by rfl,?_⟩) hHeld ?_
    ·intro w' hSw
     try dsimp only at hSw
     go_simp
    try simp only[QX]
    refine wpAnyH_take (i:=3) (oi:=⟨_,_,_,_,_,_⟩) (v:=.pointer (some ⟨k.B,12,none⟩)) rfl (by kernel_rfl) (by kernel_rfl) (by kernel_rfl) (fun _ _ _ h=>h) (Or.inl ⟨by rfl,?_⟩) hHeld ?_
    ·intro w' hSw
     try dsimp only at hSw
     go_simp
    try simp only[QX]
    refine wpAnyH_take (i:=4) (oi:=⟨_,_,_,_,_,_⟩) (v:=.pointer (some ⟨k.B,13,none⟩)) rfl (by kernel_rfl) (by kernel_rfl) (by kernel_rfl) (fun _ _ _ h=>h) (Or.inl ⟨by rfl,?_⟩) hHeld ?_
    ·intro w' hSw
     try dsimp only at hSw
     go_simp
    try simp only[QX]
    refine wpAnyH_take (i:=5) (oi:=⟨_,_,_,_,_,_⟩) (v:=.int .i64 (S.now.pos:Int)) rfl (by kernel_rfl) (by kernel_rfl) (by kernel_rfl) (fun _ _ _ h=>h) (Or.inl ⟨by rfl,?_⟩) hHeld ?_
    ·intro w' hSw
     try dsimp only at hSw
     go_simp
    try simp only[QX]
    refine wpAnyH_ready (rs:=[6]) (by kernel_rfl) (by simp) ?_;refine AllReadyH.cons (o:=⟨_,_,_,_,_,_⟩) rfl (fun K hK=>?_) AllReadyH.nil
    go_simp
    refine(hCo _).mono ?_;rintro e w7 ⟨rfl,hb7⟩
    try dsimp only
    clear hHeld;refine hK.out _ _ ⟨QC hb7 lH f0,QC hb7 lH f1,QC hb7 lH f2,QC hb7 lH f3,QC hb7 lB e13,QC hb7 lB e2,QC hb7 lB e3⟩ (fun hHeld=>?_);clear hK K
    try simp only[QX]
    refine wpAnyH_take (i:=7) (oi:=⟨_,_,_,_,_,_⟩) (v:=.bool false) rfl (by kernel_rfl) (by kernel_rfl) (by kernel_rfl) (fun _ _ _ h=>h) (Or.inl ⟨by rfl,?_⟩) hHeld ?_
    ·intro w' hSw
     try dsimp only at hSw
     go_simp
    try simp only[QX]
    refine wpAnyH_take (i:=8) (oi:=⟨_,_,_,_,_,_⟩) (v:=undef) rfl (by kernel_rfl) (by kernel_rfl) (by kernel_rfl) (fun _ _ _ h=>h) (Or.inr ⟨by rfl,rfl⟩) hHeld ?_
    try simp only[QX]
    refine wpAnyH_take (i:=9) (oi:=⟨_,_,_,_,_,_⟩) (v:=undef) rfl (by kernel_rfl) (by kernel_rfl) (by kernel_rfl) (fun _ _ _ h=>h) (Or.inr ⟨by rfl,rfl⟩) hHeld ?_
    try simp only[QX]
    refine wpAnyH_take (i:=10) (oi:=⟨_,_,_,_,_,_⟩) (v:=undef) rfl (by kernel_rfl) (by kernel_rfl) (by kernel_rfl) (fun _ _ _ h=>h) (Or.inr ⟨by rfl,rfl⟩) hHeld ?_
    try simp only[QX]
    refine wpAnyH_take (i:=11) (oi:=⟨_,_,_,_,_,_⟩) (v:=undef) rfl (by kernel_rfl) (by kernel_rfl) (by kernel_rfl) (fun _ _ _ h=>h) (Or.inr ⟨by rfl,rfl⟩) hHeld ?_
    try simp only[QX]
    refine wpAnyH_take (i:=12) (oi:=⟨_,_,_,_,_,_⟩) (v:=undef) rfl (by kernel_rfl) (by kernel_rfl) (by kernel_rfl) (fun _ _ _ h=>h) (Or.inr ⟨by rfl,rfl⟩) hHeld ?_
    try simp only[QX]
    refine wpAnyH_take (i:=13) (oi:=⟨_,_,_,_,_,_⟩) (v:=undef) rfl (by kernel_rfl) (by kernel_rfl) (by kernel_rfl) (fun _ _ _ h=>h) (Or.inr ⟨by rfl,rfl⟩) hHeld ?_
    try simp only[QX]
    refine wpAnyH_take (i:=14) (oi:=⟨_,_,_,_,_,_⟩) (v:=undef) rfl (by kernel_rfl) (by kernel_rfl) (by kernel_rfl) (fun _ _ _ h=>h) (Or.inr ⟨by rfl,rfl⟩) hHeld ?_
    try simp only[QX]
    refine wpAnyH_take (i:=15) (oi:=⟨_,_,_,_,_,_⟩) (v:=undef) rfl (by kernel_rfl) (by kernel_rfl) (by kernel_rfl) (fun _ _ _ h=>h) (Or.inr ⟨by rfl,rfl⟩) hHeld ?_
    try simp only[QX]
    refine wpAnyH_take (i:=16) (oi:=⟨_,_,_,_,_,_⟩) (v:=.bool false) rfl (by kernel_rfl) (by kernel_rfl) (by kernel_rfl) (fun _ _ _ h=>h) (Or.inl ⟨by rfl,?_⟩) hHeld ?_
    ·intro w' hSw
     try dsimp only at hSw
     go_simp
    try simp only[QX]
    refine wpAnyH_done (by kernel_rfl) ?_ _;have hB7:=(Aa HBX).drew.trans (hb7.mono (Aa HBX).size);clear hHeld f0 f1 f2 f3 e2 e3 e13 hCo;go_wp2
    go_roundw
    case rel=>exact⟨q+1,by omega,by go_num,HR2,hB7⟩
    case measure=>simp[intOf];omega
   | true =>
    rw[Bool.true_and]at hr;cases WI with
    | false =>
     rw[if_neg (by simp)]at hr;have HR2:=Ac hr;clear hr;go_wp2;generalize (wr.alloc (O13 h1 h2 h3 h4))=wA at *;simp at f0 f1 f2 f3;refine wp_region_held_drew (S:=(fun w'=>w'.cell? ⟨wr.heap.size,0,none⟩=some (.int .i64 h1)∧w'.cell? ⟨wr.heap.size,1,none⟩=some (.int .i64 h2)∧w'.cell? ⟨wr.heap.size,2,none⟩=some (.int .i64 h3)∧w'.cell? ⟨wr.heap.size,3,none⟩=some (.int .i64 h4)∧w'.cell? ⟨k.B,13,none⟩=some (.int .i64 (S.now.pos:Int))∧w'.cell? ⟨k.B,2,none⟩=some (.slice (some ⟨k.tg,0,none⟩) k.T.length k.tc)∧w'.cell? ⟨k.B,3,none⟩=some (.slice k.ya k.lf.length k.yc))) (by kernel_rfl) ⟨f0,f1,f2,f3,e13,e2,e3⟩ (fun hHeld=>?_);refine wpAnyH_take (i:=0) (oi:=⟨_,_,_,_,_,_⟩) (v:=.agg #[.int .i64 h1,.int .i64 h2,.int .i64 h3,.int .i64 h4]) rfl (by kernel_rfl) (by kernel_rfl) (by kernel_rfl) (fun _ _ _ h=>h) (Or.inl ⟨by rfl,?_⟩) hHeld ?_
     ·intro w' hSw
      try dsimp only at hSw
      go_simp
     try simp only[QX]
     refine wpAnyH_take (i:=1) (oi:=⟨_,_,_,_,_,_⟩) (v:=.pointer (some ⟨k.B,0,none⟩)) rfl (by kernel_rfl) (by kernel_rfl) (by kernel_rfl) (fun _ _ _ h=>h) (Or.inl ⟨by rfl,?_⟩) hHeld ?_
     ·intro w' hSw
      try dsimp only at hSw
      go_simp
     try simp only[QX]
     refine wpAnyH_take (i:=2) (oi:=⟨_,_,_,_,_,_⟩) (v:=.pointer (some ⟨k.B,0,none⟩)) rfl (by kernel_rfl) (by kernel_rfl) (by kernel_rfl) (fun _ _ _ h=>h) (Or.inl ⟨by rfl,?_⟩) hHeld ?_
     ·intro w' hSw
      try dsimp only at hSw
      go_simp
     try simp only[QX]
     refine wpAnyH_take (i:=3) (oi:=⟨_,_,_,_,_,_⟩) (v:=.pointer (some ⟨k.B,12,none⟩)) rfl (by kernel_rfl) (by kernel_rfl) (by kernel_rfl) (fun _ _ _ h=>h) (Or.inl ⟨by rfl,?_⟩) hHeld ?_
     ·intro w' hSw
      try dsimp only at hSw
      go_simp
     try simp only[QX]
     refine wpAnyH_take (i:=4) (oi:=⟨_,_,_,_,_,_⟩) (v:=.pointer (some ⟨k.B,13,none⟩)) rfl (by kernel_rfl) (by kernel_rfl) (by kernel_rfl) (fun _ _ _ h=>h) (Or.inl ⟨by rfl,?_⟩) hHeld ?_
     ·intro w' hSw
      try dsimp only at hSw
      go_simp
     try simp only[QX]
     refine wpAnyH_take (i:=5) (oi:=⟨_,_,_,_,_,_⟩) (v:=.int .i64 (S.now.pos:Int)) rfl (by kernel_rfl) (by kernel_rfl) (by kernel_rfl) (fun _ _ _ h=>h) (Or.inl ⟨by rfl,?_⟩) hHeld ?_
     ·intro w' hSw
      try dsimp only at hSw
      go_simp
     try simp only[QX]
     refine wpAnyH_ready (rs:=[6]) (by kernel_rfl) (by simp) ?_;refine AllReadyH.cons (o:=⟨_,_,_,_,_,_⟩) rfl (fun K hK=>?_) AllReadyH.nil
     go_simp
     refine(hCo _).mono ?_;rintro e w7 ⟨rfl,hb7⟩
     try dsimp only
     clear hHeld;refine hK.out _ _ ⟨QC hb7 lH f0,QC hb7 lH f1,QC hb7 lH f2,QC hb7 lH f3,QC hb7 lB e13,QC hb7 lB e2,QC hb7 lB e3⟩ (fun hHeld=>?_);clear hK K
     try simp only[QX]
     refine wpAnyH_take (i:=7) (oi:=⟨_,_,_,_,_,_⟩) (v:=.bool true) rfl (by kernel_rfl) (by kernel_rfl) (by kernel_rfl) (fun _ _ _ h=>h) (Or.inl ⟨by rfl,?_⟩) hHeld ?_
     ·intro w' hSw
      try dsimp only at hSw
      go_simp
     try simp only[QX]
     refine wpAnyH_take (i:=8) (oi:=⟨_,_,_,_,_,_⟩) (v:=.pointer (some ⟨k.B,0,none⟩)) rfl (by kernel_rfl) (by kernel_rfl) (by kernel_rfl) (fun _ _ _ h=>h) (Or.inl ⟨by rfl,?_⟩) hHeld ?_
     ·intro w' hSw
      try dsimp only at hSw
      go_simp
     try simp only[QX]
     refine wpAnyH_take (i:=9) (oi:=⟨_,_,_,_,_,_⟩) (v:=.pointer (some ⟨k.B,0,none⟩)) rfl (by kernel_rfl) (by kernel_rfl) (by kernel_rfl) (fun _ _ _ h=>h) (Or.inl ⟨by rfl,?_⟩) hHeld ?_
     ·intro w' hSw
      try dsimp only at hSw
      go_simp
     try simp only[QX]
     refine wpAnyH_take (i:=10) (oi:=⟨_,_,_,_,_,_⟩) (v:=.pointer (some ⟨k.B,2,none⟩)) rfl (by kernel_rfl) (by kernel_rfl) (by kernel_rfl) (fun _ _ _ h=>h) (Or.inl ⟨by rfl,?_⟩) hHeld ?_
     ·intro w' hSw
      try dsimp only at hSw
      go_simp
     try simp only[QX]
     refine wpAnyH_take (i:=11) (oi:=⟨_,_,_,_,_,_⟩) (v:=.agg #[.slice (some ⟨k.tg,0,none⟩) k.T.length k.tc,.slice k.ya k.lf.length k.yc]) rfl (by kernel_rfl) (by kernel_rfl) (by kernel_rfl) (fun _ _ _ h=>h) (Or.inl ⟨by rfl,?_⟩) hHeld ?_
     ·intro w' hSw
      try dsimp only at hSw
      go_simp
     try simp only[QX]
     refine wpAnyH_take (i:=12) (oi:=⟨_,_,_,_,_,_⟩) (v:=.int .i64 cl) rfl (by kernel_rfl) (by kernel_rfl) (by kernel_rfl) (fun _ _ _ h=>h) (Or.inl ⟨by rfl,?_⟩) hHeld ?_
     ·intro w' hSw
      try dsimp only at hSw
      go_simp
     try simp only[QX]
     refine wpAnyH_take (i:=13) (oi:=⟨_,_,_,_,_,_⟩) (v:=.pointer (some ⟨wr.heap.size,3,none⟩)) rfl (by kernel_rfl) (by kernel_rfl) (by kernel_rfl) (fun _ _ _ h=>h) (Or.inl ⟨by rfl,?_⟩) hHeld ?_
     ·intro w' hSw
      try dsimp only at hSw
      go_simp
     try simp only[QX]
     refine wpAnyH_take (i:=14) (oi:=⟨_,_,_,_,_,_⟩) (v:=.int .i64 h4) rfl (by kernel_rfl) (by kernel_rfl) (by kernel_rfl) (fun _ _ _ h=>h) (Or.inl ⟨by rfl,?_⟩) hHeld ?_
     ·intro w' hSw
      try dsimp only at hSw
      go_simp
     try simp only[QX]
     refine wpAnyH_ready (rs:=[15]) (by kernel_rfl) (by simp) ?_;refine AllReadyH.cons (o:=⟨_,_,_,_,_,_⟩) rfl (fun K hK=>?_) AllReadyH.nil
     go_simp
     refine(hWi _ ((show TreeIn wA.drew k.tg k.T from hTA).below hb7)).mono ?_;rintro e w8 ⟨rfl,hb8⟩
     try dsimp only
     clear hHeld;refine hK.out _ _ ⟨QC hb8 (QL hb7 lH) (QC hb7 lH f0),QC hb8 (QL hb7 lH) (QC hb7 lH f1),QC hb8 (QL hb7 lH) (QC hb7 lH f2),QC hb8 (QL hb7 lH) (QC hb7 lH f3),QC hb8 (QL hb7 lB) (QC hb7 lB e13),QC hb8 (QL hb7 lB) (QC hb7 lB e2),QC hb8 (QL hb7 lB) (QC hb7 lB e3)⟩ (fun hHeld=>?_);clear hK K
     try simp only[QX]
     refine wpAnyH_take (i:=16) (oi:=⟨_,_,_,_,_,_⟩) (v:=.bool false) rfl (by kernel_rfl) (by kernel_rfl) (by kernel_rfl) (fun _ _ _ h=>h) (Or.inl ⟨by rfl,?_⟩) hHeld ?_
     ·intro w' hSw
      try dsimp only at hSw
      go_simp
     try simp only[QX]
     refine wpAnyH_done (by kernel_rfl) ?_ _;have hB7:=(Aa HBX).drew.trans (hb7.mono (Aa HBX).size);have hB8:=QB hB7 hb8;clear hHeld f0 f1 f2 f3 e2 e3 e13 hCo hWi;go_wp2
     go_roundw
     case rel=>exact⟨q+1,by omega,by go_num,HR2,hB8⟩
     case measure=>simp[intOf];omega
    | true =>
     rw[if_pos rfl]at hr;have HR2:Hid (Mc.ans r=h3∧r.isSome=true):=by
      unfold Hid;rw[← hr];exact⟨by show ((h3.toNat:Nat):Int)=h3;omega,rfl⟩
     clear hr;go_wp2;generalize (wr.alloc (O13 h1 h2 h3 h4))=wA at *;simp at f0 f1 f2 f3;refine wp_region_held_drew (S:=(fun w'=>w'.cell? ⟨wr.heap.size,0,none⟩=some (.int .i64 h1)∧w'.cell? ⟨wr.heap.size,1,none⟩=some (.int .i64 h2)∧w'.cell? ⟨wr.heap.size,2,none⟩=some (.int .i64 h3)∧w'.cell? ⟨wr.heap.size,3,none⟩=some (.int .i64 h4)∧w'.cell? ⟨k.B,13,none⟩=some (.int .i64 (S.now.pos:Int))∧w'.cell? ⟨k.B,2,none⟩=some (.slice (some ⟨k.tg,0,none⟩) k.T.length k.tc)∧w'.cell? ⟨k.B,3,none⟩=some (.slice k.ya k.lf.length k.yc))) (by kernel_rfl) ⟨f0,f1,f2,f3,e13,e2,e3⟩ (fun hHeld=>?_);refine wpAnyH_take (i:=0) (oi:=⟨_,_,_,_,_,_⟩) (v:=.agg #[.int .i64 h1,.int .i64 h2,.int .i64 h3,.int .i64 h4]) rfl (by kernel_rfl) (by kernel_rfl) (by kernel_rfl) (fun _ _ _ h=>h) (Or.inl ⟨by rfl,?_⟩) hHeld ?_
     ·intro w' hSw
      try dsimp only at hSw
      go_simp
     try simp only[QX]
     refine wpAnyH_take (i:=1) (oi:=⟨_,_,_,_,_,_⟩) (v:=.pointer (some ⟨k.B,0,none⟩)) rfl (by kernel_rfl) (by kernel_rfl) (by kernel_rfl) (fun _ _ _ h=>h) (Or.inl ⟨by rfl,?_⟩) hHeld ?_
     ·intro w' hSw
      try dsimp only at hSw
      go_simp
     try simp only[QX]
     refine wpAnyH_take (i:=2) (oi:=⟨_,_,_,_,_,_⟩) (v:=.pointer (some ⟨k.B,0,none⟩)) rfl (by kernel_rfl) (by kernel_rfl) (by kernel_rfl) (fun _ _ _ h=>h) (Or.inl ⟨by rfl,?_⟩) hHeld ?_
     ·intro w' hSw
      try dsimp only at hSw
      go_simp
     try simp only[QX]
     refine wpAnyH_take (i:=3) (oi:=⟨_,_,_,_,_,_⟩) (v:=.pointer (some ⟨k.B,12,none⟩)) rfl (by kernel_rfl) (by kernel_rfl) (by kernel_rfl) (fun _ _ _ h=>h) (Or.inl ⟨by rfl,?_⟩) hHeld ?_
     ·intro w' hSw
      try dsimp only at hSw
      go_simp
     try simp only[QX]
     refine wpAnyH_take (i:=4) (oi:=⟨_,_,_,_,_,_⟩) (v:=.pointer (some ⟨k.B,13,none⟩)) rfl (by kernel_rfl) (by kernel_rfl) (by kernel_rfl) (fun _ _ _ h=>h) (Or.inl ⟨by rfl,?_⟩) hHeld ?_
     ·intro w' hSw
      try dsimp only at hSw
      go_simp
     try simp only[QX]
     refine wpAnyH_take (i:=5) (oi:=⟨_,_,_,_,_,_⟩) (v:=.int .i64 (S.now.pos:Int)) rfl (by kernel_rfl) (by kernel_rfl) (by kernel_rfl) (fun _ _ _ h=>h) (Or.inl ⟨by rfl,?_⟩) hHeld ?_
     ·intro w' hSw
      try dsimp only at hSw
      go_simp
     try simp only[QX]
     refine wpAnyH_ready (rs:=[6]) (by kernel_rfl) (by simp) ?_;refine AllReadyH.cons (o:=⟨_,_,_,_,_,_⟩) rfl (fun K hK=>?_) AllReadyH.nil
     go_simp
     refine(hCo _).mono ?_;rintro e w7 ⟨rfl,hb7⟩
     try dsimp only
     clear hHeld;refine hK.out _ _ ⟨QC hb7 lH f0,QC hb7 lH f1,QC hb7 lH f2,QC hb7 lH f3,QC hb7 lB e13,QC hb7 lB e2,QC hb7 lB e3⟩ (fun hHeld=>?_);clear hK K
     try simp only[QX]
     refine wpAnyH_take (i:=7) (oi:=⟨_,_,_,_,_,_⟩) (v:=.bool true) rfl (by kernel_rfl) (by kernel_rfl) (by kernel_rfl) (fun _ _ _ h=>h) (Or.inl ⟨by rfl,?_⟩) hHeld ?_
     ·intro w' hSw
      try dsimp only at hSw
      go_simp
     try simp only[QX]
     refine wpAnyH_take (i:=8) (oi:=⟨_,_,_,_,_,_⟩) (v:=.pointer (some ⟨k.B,0,none⟩)) rfl (by kernel_rfl) (by kernel_rfl) (by kernel_rfl) (fun _ _ _ h=>h) (Or.inl ⟨by rfl,?_⟩) hHeld ?_
     ·intro w' hSw
      try dsimp only at hSw
      go_simp
     try simp only[QX]
     refine wpAnyH_take (i:=9) (oi:=⟨_,_,_,_,_,_⟩) (v:=.pointer (some ⟨k.B,0,none⟩)) rfl (by kernel_rfl) (by kernel_rfl) (by kernel_rfl) (fun _ _ _ h=>h) (Or.inl ⟨by rfl,?_⟩) hHeld ?_
     ·intro w' hSw
      try dsimp only at hSw
      go_simp
     try simp only[QX]
     refine wpAnyH_take (i:=10) (oi:=⟨_,_,_,_,_,_⟩) (v:=.pointer (some ⟨k.B,2,none⟩)) rfl (by kernel_rfl) (by kernel_rfl) (by kernel_rfl) (fun _ _ _ h=>h) (Or.inl ⟨by rfl,?_⟩) hHeld ?_
     ·intro w' hSw
      try dsimp only at hSw
      go_simp
     try simp only[QX]
     refine wpAnyH_take (i:=11) (oi:=⟨_,_,_,_,_,_⟩) (v:=.agg #[.slice (some ⟨k.tg,0,none⟩) k.T.length k.tc,.slice k.ya k.lf.length k.yc]) rfl (by kernel_rfl) (by kernel_rfl) (by kernel_rfl) (fun _ _ _ h=>h) (Or.inl ⟨by rfl,?_⟩) hHeld ?_
     ·intro w' hSw
      try dsimp only at hSw
      go_simp
     try simp only[QX]
     refine wpAnyH_take (i:=12) (oi:=⟨_,_,_,_,_,_⟩) (v:=.int .i64 cl) rfl (by kernel_rfl) (by kernel_rfl) (by kernel_rfl) (fun _ _ _ h=>h) (Or.inl ⟨by rfl,?_⟩) hHeld ?_
     ·intro w' hSw
      try dsimp only at hSw
      go_simp
     try simp only[QX]
     refine wpAnyH_take (i:=13) (oi:=⟨_,_,_,_,_,_⟩) (v:=.pointer (some ⟨wr.heap.size,3,none⟩)) rfl (by kernel_rfl) (by kernel_rfl) (by kernel_rfl) (fun _ _ _ h=>h) (Or.inl ⟨by rfl,?_⟩) hHeld ?_
     ·intro w' hSw
      try dsimp only at hSw
      go_simp
     try simp only[QX]
     refine wpAnyH_take (i:=14) (oi:=⟨_,_,_,_,_,_⟩) (v:=.int .i64 h4) rfl (by kernel_rfl) (by kernel_rfl) (by kernel_rfl) (fun _ _ _ h=>h) (Or.inl ⟨by rfl,?_⟩) hHeld ?_
     ·intro w' hSw
      try dsimp only at hSw
      go_simp
     try simp only[QX]
     refine wpAnyH_ready (rs:=[15]) (by kernel_rfl) (by simp) ?_;refine AllReadyH.cons (o:=⟨_,_,_,_,_,_⟩) rfl (fun K hK=>?_) AllReadyH.nil
     go_simp
     refine(hWi _ ((show TreeIn wA.drew k.tg k.T from hTA).below hb7)).mono ?_;rintro e w8 ⟨rfl,hb8⟩
     try dsimp only
     clear hHeld;refine hK.out _ _ ⟨QC hb8 (QL hb7 lH) (QC hb7 lH f0),QC hb8 (QL hb7 lH) (QC hb7 lH f1),QC hb8 (QL hb7 lH) (QC hb7 lH f2),QC hb8 (QL hb7 lH) (QC hb7 lH f3),QC hb8 (QL hb7 lB) (QC hb7 lB e13),QC hb8 (QL hb7 lB) (QC hb7 lB e2),QC hb8 (QL hb7 lB) (QC hb7 lB e3)⟩ (fun hHeld=>?_);clear hK K
     try simp only[QX]
     refine wpAnyH_take (i:=16) (oi:=⟨_,_,_,_,_,_⟩) (v:=.bool true) rfl (by kernel_rfl) (by kernel_rfl) (by kernel_rfl) (fun _ _ _ h=>h) (Or.inl ⟨by rfl,?_⟩) hHeld ?_
     ·intro w' hSw
      try dsimp only at hSw
      go_simp
     try simp only[QX]
     refine wpAnyH_done (by kernel_rfl) ?_ _;have hB7:=hBA.drew.trans (hb7.mono hBA.size);have hB8:=QB hB7 hb8;have f2':=QC hb8 (QL hb7 lH) (QC hb7 lH f2);clear hHeld f0 f1 f2 f3 e2 e3 e13 hCo hWi;go_wp2;go_ret2;refine⟨?_,hB8⟩;rw[(Aa HR2).1,(Aa HR2).2];rfl
  ·have hqq:q=M.handlers.length:=by omega
   subst hqq;have hr:=Aa HR;rw[List.drop_length]at hr;have hr':r=none:=hr.symm;clear hr HR;subst hr';go_wp2;go_ret2;exact⟨rfl,hBw⟩
theorem Mc.K.Ok.hm {k:Mc.K} (ok:k.Ok) (n:Int):(k.E.meth n).handlers.length≤1000∧∀ x∈(k.E.meth n).handlers,0≤x.target:=by
 unfold Mc.E.meth
 split
 ·exact⟨by simp[Mc.noMeth],fun x hx=>by simp[Mc.noMeth]at hx⟩
 ·split
  ·exact⟨by simp[Mc.noMeth],fun x hx=>by simp[Mc.noMeth]at hx⟩
  ·rename_i h0 h1;have hl:k.E.ms.length=k.lms.length:=by simp[Mc.K.E]
   have hi:n.toNat<k.lms.length:=by omega
   have e:k.E.ms.getD n.toNat Mc.noMeth=k.lms[n.toNat].1:=by
    rw[List.getD_eq_getElem?_getD];simp[Mc.K.E,hi]
   rw[e];obtain⟨a,b⟩:=ok.hn _ (List.getElem_mem hi);exact⟨a,fun x hx=>(b x hx).1⟩
def Mc.wl (k:Mc.K) (w:World):Nat:=match w.cell? ⟨k.B,32,none⟩ with
 | some (.slice _ n _)=>n
 | _=>0
theorem Mc.At.wl {k:Mc.K}{S:Mc.S}{v:Mc.V}{w:World} (h:Mc.At k S v w):Mc.wl k w=S.wait.length:=by
 unfold Mc.wl;rw[h.sees.c32]
def Mc.om:Value→Nat
 | .bool true=>1
 | _=>0
theorem Nc (k:Mc.K) (S:Mc.S) (v:Mc.V) (o:Int) (w:World) (ok:k.Ok) (h:Mc.At k S v w) :
  Calls Tryz.prog 253 #[.pointer (some ⟨k.B,0,none⟩),.int .i64 o] w fun e w'=>e=.returned (.tuple #[])∧∃ v',Mc.At k (Mc.throw k.E o S) v' w':=by
 have hC:=Gz k S v o w h;unfold Mc.throw;generalize Mc.classOf o S.objs=cl at *;generalize hR:Mc.throwN k.E o cl (S.wait.length+1) S=R;have HR:=Ac hR;have hTg:=fun S v w h=>Tk k S v cl w ok h (ok.hm S.now.meth);have HT:=Ac hTg;have HA:=Ac h;clear hR hTg h;go_enter Tryz.func253,Tryz.ntmps253;go_wp2_with fail
 refine hC.mono ?_;rintro e w1 ⟨rfl,rfl⟩;go_wp2
 go_loopw [5] (fun b wr=>∃ (S':Mc.S) (v':Mc.V),Hid (Mc.At k S' v' wr)∧((b=.bool true∧Hid (Mc.throwN k.E o cl (S'.wait.length+1) S'=R))∨(b=.bool false∧Hid (S'.fin 2 cl=R))))
  (fun b wr=>Mc.om b*(1+Mc.wl k wr))
 case atStart=>exact⟨S,v,HA,.inl ⟨rfl,HR⟩⟩
 case round =>
  clear HR HA hC;obtain⟨S',v',HA,⟨rfl,HR⟩ | ⟨rfl,HR⟩⟩:=hrel
  ·have hA:=Aa HA;have hT:=Aa HT S' v' wr hA;have hr:=Aa HR;rw[Mc.throwN]at hr;have hwl:=hA.wl;cases ht:k.E.target cl S'.now with
   | some t =>
    rw[ht]at hT hr;simp only at hr;have HR2:=Ac hr;clear hr HR HA;go_wp2_with fail
    refine hT.mono ?_;rintro e w2 ⟨rfl,hb2⟩;have hA2:=hA.gr ok hb2;have hTk:=Xy S'.now o t k.B 12 156 _ _ w2 rfl hA2.wf hA2.blk;simp only[Mc.ans,Option.isSome];go_wp2_with fail
    refine hTk.mono ?_;rintro e w3 ⟨rfl,h3,hg3⟩;have hA3:=hA2.now ok hg3 (Acg hA2.wf o t) h3;go_wp2;refine bodyPost_ret (v:=.tuple #[]) (by simp[results,Tryz.results253,go_sem]) rfl ?_;exact⟨rfl,v',by rw[← Aa HR2];exact hA3⟩
   | none =>
    rw[ht]at hT hr;simp only at hr;have hA:=Aa HA;cases hw:S'.wait.getLast? with
    | none =>
     rw[hw]at hr;simp only at hr;have hw0:S'.wait=[]:=by simpa using hw
     have HR2:=Ac hr;have hE:=fun w h=>Ri k S' v' w h hw0;clear hr HR HA ht hw;go_wp2_with fail
     refine hT.mono ?_;rintro e w2 ⟨rfl,hb2⟩;have hA2:=hA.gr ok hb2;simp only[Mc.ans,Option.isSome];go_wp2_with fail
     refine(hE _ hA2).mono ?_;rintro e w3 ⟨rfl,hA3⟩;have HA3:=Ac hA3;go_wp2
     go_roundw
     case rel=>exact⟨S',v',HA3,.inr ⟨rfl,HR2⟩⟩
     case measure=>simp[Mc.om];omega
    | some c =>
     rw[hw]at hr;simp only at hr;have hw0:S'.wait=S'.wait.dropLast++[c]:=by
      have:=List.getLast?_eq_some_iff.1 hw;obtain⟨ys,e⟩:=this;rw[e];simp
     have hlen:S'.wait.length=S'.wait.dropLast.length+1:=by
      conv=>lhs;rw[hw0]
      simp
     rw[hlen]at hr;have HR2:=Ac hr;have hE:=fun w h=>J3 k S' v' _ c w ok h hw0;generalize S'.wait.dropLast=W at *;have HL:=Ac hlen;clear hr HR HA ht hw hw0 hlen;go_wp2_with fail
     refine hT.mono ?_;rintro e w2 ⟨rfl,hb2⟩;have hA2:=hA.gr ok hb2;simp only[Mc.ans,Option.isSome];go_wp2_with fail
     refine(hE _ hA2).mono ?_;rintro e w3 ⟨rfl,hA3⟩;have hwl3:=hA3.wl;have HA3:=Ac hA3;go_wp2
     go_roundw
     case rel=>exact⟨_,v',HA3,.inl ⟨rfl,HR2⟩⟩
     case measure =>
      have:=Aa HL;simp[Mc.om,hwl,hwl3];omega
  ·have hA:=Aa HA;have hE:=Mf k S' v' 2 cl wr ok hA;have HR2:=HR;clear HR HA HT;go_wp2_with fail
   refine hE.mono ?_;rintro e w2 ⟨rfl,hA2⟩;go_wp2
   go_end0
   exact⟨rfl,v',by rw[← Aa HR2];exact hA2⟩
theorem Bg (k:Mc.K) (S:Mc.S) (v:Mc.V) (cl:Int) (w:World) (ok:k.Ok) (h:Mc.At k S v w) (h0:0≤cl) (h1:cl≤100) :
  Calls Tryz.prog 242 #[.pointer (some ⟨k.B,0,none⟩),.int .i64 cl] w fun e w'=>e=.returned (.tuple #[])∧∃ v',Mc.At k (Mc.throwGiven k.E cl S) v' w':=by
 have hG:=Uc cl w h0 h1;have hT:=Nc k S v (cl-2+1) w ok h;unfold Mc.throwGiven;generalize Mc.throw k.E (cl-2+1) S=R at *;generalize cl-2+1=o at *;clear h;go_enter Tryz.func242,Tryz.ntmps242;go_wp2_with fail
 refine hG.mono ?_;rintro e w1 ⟨rfl,rfl⟩;go_wp2_with fail
 refine hT.mono ?_;rintro e w2 ⟨rfl,v',hA⟩;go_wp2
 go_end0
 exact⟨rfl,v',hA⟩
end Go.Proofs.YtpcgnjolfahacaaGreat
