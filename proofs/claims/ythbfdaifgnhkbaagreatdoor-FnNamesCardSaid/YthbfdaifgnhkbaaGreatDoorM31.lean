/- Cx, Cy, Cr, Ct. -/
import Derived.Test.YthbfdaifgnhkbaaGreatDoorM16
import Derived.Test.YthbfdaifgnhkbaaGreatDoorM30
import Derived.Test.YthbfdaifgnhkbaaGreatDoorM10
namespace Go.Proofs.YthbfdaifgnhkbaaGreatDoor
open Go.RowKit
def fixedV:List Value:=[.string ⟨#[108,101,116,32,115,48,32,61,32,108,101,116,32,110,49,32,61,32,49,32,105,110,32,91,110,49,32,102,111,114,32,110,49,32,105,110,32,91,110,49,93,93,59,10,101,109,105,116,32,123,118,58,32,115,48,125,59,10]⟩,.string ⟨#[108,101,116,32,115,48,32,61,32,108,101,116,32,110,49,32,61,32,49,32,105,110,32,91,110,49,32,43,32,110,50,32,102,111,114,32,110,50,32,105,110,32,91,110,49,93,32,105,102,32,110,49,32,61,61,32,110,50,93,59,10,101,109,105,116,32,123,118,58,32,115,48,125,59,10]⟩,.string ⟨#[108,101,116,32,115,48,32,61,32,108,101,116,32,110,49,32,61,32,49,32,105,110,32,40,102,110,40,110,49,32,61,32,50,41,32,61,62,32,110,49,41,40,41,32,43,32,110,49,59,10,101,109,105,116,32,123,118,58,32,115,48,125,59,10]⟩,.string ⟨#[108,101,116,32,115,48,32,61,32,108,101,116,32,110,49,32,61,32,49,32,105,110,32,40,102,110,40,110,50,44,32,110,49,32,61,32,110,49,41,32,61,62,32,91,110,49,44,32,110,50,93,41,40,110,49,41,59,10,101,109,105,116,32,123,118,58,32,115,48,125,59,10]⟩,.string ⟨#[108,101,116,32,115,48,32,61,32,108,101,116,32,110,49,32,61,32,49,32,105,110,32,40,102,110,40,110,49,44,32,110,50,32,61,32,110,49,41,32,61,62,32,91,110,49,44,32,110,50,93,41,40,55,41,59,10,101,109,105,116,32,123,118,58,32,115,48,125,59,10]⟩,.string ⟨#[108,101,116,32,121,32,61,32,53,59,10,100,101,102,32,102,40,120,44,32,121,32,61,32,121,41,32,61,32,91,120,44,32,121,93,59,10,101,109,105,116,32,123,118,58,32,102,40,49,41,125,59,10]⟩,.string ⟨#[100,101,102,32,102,40,120,44,32,121,32,61,32,121,41,32,61,32,120,59,10]⟩,.string ⟨#[100,101,102,32,102,40,120,32,61,32,120,41,32,61,32,120,59,10,108,101,116,32,120,32,61,32,51,59,10,101,109,105,116,32,123,118,58,32,102,40,41,125,59,10]⟩,.string ⟨#[108,101,116,32,115,48,32,61,32,108,101,116,32,110,49,32,61,32,34,110,101,119,95,110,97,109,101,34,32,105,110,32,110,49,32,43,32,34,110,50,34,59,10,101,109,105,116,32,123,110,101,119,95,110,97,109,101,58,32,115,48,44,32,118,58,32,115,48,46,110,49,125,59,10]⟩,.string ⟨#[100,101,102,32,108,101,110,40,120,41,32,61,32,55,59,10,108,101,116,32,97,32,61,32,108,101,110,40,49,41,59,10,101,109,105,116,32,123,118,58,32,97,125,59,10]⟩,.string ⟨#[108,101,116,32,97,32,61,32,108,101,110,40,91,49,93,41,59,10,100,101,102,32,108,101,110,40,120,41,32,61,32,55,59,10,101,109,105,116,32,123,118,58,32,97,125,59,10]⟩,.string ⟨#[108,101,116,32,110,32,61,32,49,59,10,108,101,116,32,102,32,61,32,102,110,40,120,41,32,61,62,32,110,32,43,32,120,59,10,100,101,102,32,103,40,110,41,32,61,32,102,40,110,41,59,10,101,109,105,116,32,123,118,58,32,103,40,49,48,41,125,59,10]⟩,.string ⟨#[108,101,116,32,102,32,61,32,102,110,40,120,41,32,61,62,32,91,120,44,32,110,93,59,10,108,101,116,32,115,48,32,61,32,108,101,116,32,110,32,61,32,50,32,105,110,32,102,40,110,41,59,10,108,101,116,32,110,32,61,32,57,59,10]⟩,.string ⟨#[108,101,116,32,114,32,61,32,123,97,58,32,49,125,59,10,101,109,105,116,32,123,118,58,32,115,111,114,116,101,100,40,91,114,44,32,123,98,58,32,50,125,44,32,114,93,41,44,32,119,58,32,117,110,105,113,117,101,40,91,114,44,32,123,98,58,32,50,125,44,32,114,93,41,125,59,10]⟩,.string ⟨#[101,109,105,116,32,123,95,58,32,49,44,32,95,95,58,32,123,95,97,58,32,50,125,44,32,34,97,45,98,34,58,32,51,125,59,10]⟩]
theorem fixed_at [Inhabited Bs] (z:Nat) (hz:z < 15):∃ s:ByteArray,fixedV[z]?=some (.string s)∧s.size≤1000:=by
 have:z=0∨z=1∨z=2∨z=3∨z=4∨z=5∨z=6∨z=7∨z=8∨z=9∨z=10∨z=11∨z=12∨z=13∨z=14:=by omega
 rcases this with rfl | rfl | rfl | rfl | rfl | rfl | rfl | rfl | rfl | rfl | rfl | rfl | rfl | rfl | rfl
 all_goals exact ⟨_,rfl,by decide⟩
set_option maxRecDepth 100000 in
set_option maxHeartbeats 2000000 in
theorem fixed_any [Inhabited Bs] (w:World):Calls Tryz.prog 37 #[] w fun e w'=>e = .returned (.slice (some ⟨w.heap.size,0,none⟩) 15 15)∧w'.ownsRow 0 9 1 (.slice (some ⟨w.heap.size,0,none⟩) 15 15) 15 fixedV∧Below w.heap.size w w':=by
 have HL:=X1 (World.ownsRow_lit (base:=0) (e:=9) (size:=1) w fixedV.toArray 15 (Nat.zero_le _) (by unfold maxLen;omega) rfl)
 go_enter Tryz.func37,Tryz.ntmps37
 go_wp2
 go_ret
 exact ⟨rfl,HL.out,bA _⟩
variable (rb:Nat) (vb:Value) (n:Nat)
def SpoilAt [Inhabited Bs]:Prop:=∀ (q:Nat) (v:Value) (l:List Tr.Nd) (w:World),Rq rb vb n q w→NR w v l→l.length≤300000→q≤700000000→Calls Tryz.prog 20 #[.pointer (some ⟨rb,0,none⟩),.agg #[v]] w fun e w'=>∃ v' l',e = .returned (.agg #[v'])∧NR w' v' l'∧l'.length≤l.length+1∧Rq rb vb n (q+10) w'∧Tf w w'
theorem NR.val [Inhabited Bs] {w:World} {v:Value} {l:List Tr.Nd} (h:NR w v l):∃ p c,v = .slice p l.length c:=Xc h.1
theorem NR.setT [Inhabited Bs] {w:World} {b o:Nat} {v u:Value} {l:List Tr.Nd} (h:NR w v l) (ht:tyAt w b≠some 33):NR (w.setCell ⟨b,o,none⟩ u) v l:=⟨XW h.1 ht,h.2⟩
theorem Tr.plain_short [Inhabited Bs] {x:Tr.Nd} (h:Xb x=true):x.text.size≤1000000:=by
 unfold Xb at h
 split at h
 ·cases h
 ·rename_i h0
  cases hk:Xw x.kind
  ·have h1:(x.text.toList == [])=true:=by
    cases hc:(x.text.toList == [])
    ·exact absurd (by simp [hk,hc]) h0
    ·rfl
   rw [ByteArray.toList_eq] at h1
   have h2:x.text.data.toList=[]:=by simpa using h1
   have h3:x.text.data.toList.length=0:=by rw [h2];rfl
   have h4:x.text.size=x.text.data.toList.length:=rfl
   omega
  ·have n2:x.kind≠2:=fun e=>by rw [e] at hk;revert hk;decide
   have n3:x.kind≠3:=fun e=>by rw [e] at hk;revert hk;decide
   have n6:x.kind≠6:=fun e=>by rw [e] at hk;revert hk;decide
   have n7:x.kind≠7:=fun e=>by rw [e] at hk;revert hk;decide
   rw [if_neg n2,if_neg n3] at h
   split at h
   ·have:=of_decide_eq_true h
    omega
   ·split at h
    ·unfold ZA at h
     simp only [Bool.and_eq_true] at h
     have:=YR h.1
     omega
    ·simp only [hk,Bool.not_true,Bool.false_or] at h
     unfold Yc at h
     simp only [Bool.and_eq_true] at h
     have:=YR h.1.1.1
     omega
theorem Tr.vgo_plain [Inhabited Bs] {ns:List Tr.Nd}:∀ (r:List (Tr.Nd × List Nat)) (hs:List Nat),Zx ns r hs=true→∀ p∈r,Xb p.1=true:=by
 intro r
 induction r with
 | nil=>intro hs _ p hp;cases hp
 | cons a r ih =>
  intro hs h p hp
  obtain ⟨d,k⟩:=a
  simp only [Zx,Bool.and_eq_true] at h
  rcases List.mem_cons.1 hp with rfl | hp
  ·exact h.1.1.2
  ·exact ih _ h.2 p hp
theorem Tr.valid_short [Inhabited Bs] {l:List Tr.Nd} (h:XR l=true):Sh l:=fun x hx=>by
 unfold XR at h
 simp only [Bool.and_eq_true] at h
 obtain ⟨i,hi,rfl⟩:=List.getElem_of_mem hx
 have hl:=Zv h.1.2
 have hz:i < (l.zip (Xk l)).length:=by rw [List.length_zip];omega
 have:=Tr.vgo_plain _ _ h.2 _ (List.getElem_mem hz)
 rw [List.getElem_zip] at this
 exact Tr.plain_short this
theorem sh_nil [Inhabited Bs]:Sh []:=fun _ hx=>by cases hx
theorem Pr.Parsed.short [Inhabited Bs] {s:ByteArray} {r:List Tr.Nd × Nat × Nat} (h:Pr.Parsed s r):Sh r.1:=by
 rcases h with ⟨h1,rfl⟩ | ⟨h1,d,hd,rfl⟩
 ·exact sh_nil
 ·unfold Zc
  split
  ·exact sh_nil
  ·split
   ·rename_i _ hv
    exact Tr.valid_short hv
   ·exact sh_nil
set_option maxRecDepth 100000 in
set_option maxHeartbeats 4000000 in
theorem any2_any [Inhabited Bs] (HPR:∀ q w,Rq rb vb n q w→q≤90000000→Calls Tryz.prog 39 #[.pointer (some ⟨rb,0,none⟩)] w fun e w'=>RTk rb vb n q 250010 w e w') (HSP:SpoilAt rb vb n) (q:Nat) (w:World) (h:Rq rb vb n q w) (hq:q≤80000000):Calls Tryz.prog 18 #[.pointer (some ⟨rb,0,none⟩)] w fun e w'=>RTk rb vb n q 250030 w e w':=by
 have hrw:=h.lt
 have b0:Below w.heap.size w (w.alloc (.cells #[.slice none 0 0] 25)):=bA _
 have HR0:=X1 (h.below b0)
 have HT0:Hid (Ty w (w.alloc (.cells #[.slice none 0 0] 25))):=X1 (.of b0)
 have HX0:Hid ((w.alloc (.cells #[.slice none 0 0] 25)).heap[w.heap.size]?=some (.cells #[.slice none 0 0] 25)):=X1 (Xf w _)
 have HPR:=X1 HPR
 have HSP:=X1 HSP
 clear b0 h
 go_enter Tryz.func18,Tryz.ntmps18
 go_wp2_with fail
 refine (Rq.pick HR0.out (by omega) 30 (by omega) (by omega)).mono ?_
 rintro e w1 ⟨z1,hz1,rfl,hr1,ht1⟩
 have HR1:=X1 hr1
 have HT1:=X1 (HT0.out.trans ht1)
 have HX1:=X1 (Ty.same ht1 HX0.out Xq)
 clear hr1 ht1
 by_cases h26:(26:Int) < (z1:Int)
 ·go_wp2_with fail
  refine (fixed_any w1).mono ?_
  rintro e w2 ⟨rfl,hl2,b2⟩
  have HR2:=X1 (HR1.out.below b2)
  have HT2:=X1 (HT1.out.trans (.of b2))
  have HX2:=X1 (TyM.same HX1.out b2)
  have HL2:=X1 hl2
  clear hl2 b2
  go_wp2_with fail
  refine (Rq.pick HR2.out (by omega) 15 (by omega) (by omega)).mono ?_
  rintro e w3 ⟨z3,hz3,rfl,hr3,ht3⟩
  have HR3:=X1 hr3
  have HT3:=X1 (HT2.out.trans ht3)
  have HX3:=X1 (Ty.same ht3 HX2.out Xq)
  have HL3:=X1 (XH HL2.out ht3 (by unfold Mine;simp))
  obtain ⟨s3,hs3,hsz⟩:=fixed_at z3 (by omega)
  have cl3:=XO HL3.out hs3
  clear hr3 ht3 hs3
  go_wp2_with fail
  refine (sparse_any s3 w3 (by omega)).mono ?_
  rintro e w4 ⟨r4,hpr4,v4,rfl,hrow4,b4⟩
  have hlen:=hpr4.len
  have nr4:NR w4 v4 r4.1:=⟨Zs hrow4 (Nat.zero_le _),hpr4.short⟩
  obtain ⟨p4,c4,hv4⟩:=nr4.val
  subst hv4
  generalize r4.1=l4 at *
  generalize r4.2.1=cd4 at *
  generalize r4.2.2=at4 at *
  have b5:Below w4.heap.size w4 (w4.alloc (.cells #[.slice p4 l4.length c4] 25)):=bA _
  have b6:Below w4.heap.size w4 ((w4.alloc (.cells #[.slice p4 l4.length c4] 25)).alloc (.cells #[.int .i64 cd4,.int .i64 at4] 28)):=b5.alloc b5.size _
  have hX6:=TyM.same (TyM.same HX3.out b4) b6
  have HR6:=X1 ((HR3.out.below b4).below b6)
  have HT6:=X1 ((HT3.out.trans (.of b4)).trans (.of b6))
  have HN6:=X1 (nr4.below b6)
  have t0:=(XI hX6).1
  have ft:=(XI hX6).2
  have hty:tyAt ((w4.alloc (.cells #[.slice p4 l4.length c4] 25)).alloc (.cells #[.int .i64 cd4,.int .i64 at4] 28)) w.heap.size≠some 33:=by unfold tyAt;rw [hX6];decide
  have HY6:Hid (((w4.alloc (.cells #[.slice p4 l4.length c4] 25)).alloc (.cells #[.int .i64 cd4,.int .i64 at4] 28)).heap[w4.heap.size]?=some (.cells #[.slice p4 l4.length c4] 25)):=X1 (TyM.same (Xf w4 _) (bA _))
  have y0:=(XI HY6.out).1
  clear nr4 hrow4 b4 b5 b6 hX6 hpr4
  have HNf:=X1 (NR.setT (o:=0) (u:= .slice p4 l4.length c4) HN6.out hty)
  have HRf:=X1 (Rq.set (o:=0) (v:= .slice p4 l4.length c4) HR6.out hrw)
  have HTf:=X1 (YB (o:=0) (v:= .slice p4 l4.length c4) (Ty.tf HT6.out) (Nat.le_refl _))
  go_wp2
  exact bodyPost_ret (v:= .agg #[.slice p4 l4.length c4]) (by simp [results,Tryz.results18,go_sem,t0]) rfl ⟨_,_,rfl,HNf.out,by omega,HRf.out.mono (by omega),HTf.out⟩
 ·by_cases h0:z1=0
  ·subst h0
   go_wp2_with fail
   refine (edge_any rb vb n _ _ HR1.out (by omega)).mono ?_
   rintro e w5 ⟨v5,l5,rfl,nr5,m5,hr5,ht5⟩
   obtain ⟨p5,c5,hv5⟩:=nr5.val
   subst hv5
   have hX5:=Tf.same ht5 HX1.out Z2
   have t0:=(XI hX5).1
   have ft:=(XI hX5).2
   have hty:tyAt w5 w.heap.size≠some 33:=by unfold tyAt;rw [hX5];decide
   have HNf:Hid (NR (w5.setCell ⟨w.heap.size,0,none⟩ (.slice p5 l5.length c5)) (.slice p5 l5.length c5) l5):=X1 ⟨XW nr5.1 hty,nr5.2⟩
   have HRf:=X1 (Rq.set (o:=0) (v:= .slice p5 l5.length c5) hr5 hrw)
   have HTf:=X1 (YB (o:=0) (v:= .slice p5 l5.length c5) ((Ty.tf HT1.out).trans ht5) (Nat.le_refl _))
   clear nr5 hX5 hr5 ht5
   go_wp2
   exact bodyPost_ret (v:= .agg #[.slice p5 l5.length c5]) (by simp [results,Tryz.results18,go_sem,t0]) rfl ⟨_,_,rfl,HNf.out,by omega,HRf.out.mono (by omega),HTf.out⟩
  have h0b:((z1:Int) == 0)=false:=by simp;omega
  by_cases h4:(z1:Int) < 4
  ·go_wp2_with fail
   refine (HPR.out _ _ HR1.out (by omega)).mono ?_
   rintro e w4 ⟨v4,l4,rfl,nr4,m4,hr4,ht4⟩
   obtain ⟨p4,c4,hv4⟩:=nr4.val
   subst hv4
   have HX4:=X1 (Tf.same ht4 HX1.out Z2)
   have HT4:=X1 ((Ty.tf HT1.out).trans ht4)
   have HQ:=X1 (HSP.out _ _ _ _ hr4 nr4 (by omega) (by omega))
   clear nr4 hr4 ht4
   go_wp2_with fail
   refine HQ.out.mono ?_
   rintro e w5 ⟨v5,l5,rfl,nr5,m5,hr5,ht5⟩
   obtain ⟨p5,c5,hv5⟩:=nr5.val
   subst hv5
   have hX5:=Tf.same ht5 HX4.out Z2
   have t0:=(XI hX5).1
   have ft:=(XI hX5).2
   have hty:tyAt w5 w.heap.size≠some 33:=by unfold tyAt;rw [hX5];decide
   have HNf:Hid (NR (w5.setCell ⟨w.heap.size,0,none⟩ (.slice p5 l5.length c5)) (.slice p5 l5.length c5) l5):=X1 ⟨XW nr5.1 hty,nr5.2⟩
   have HRf:=X1 (Rq.set (o:=0) (v:= .slice p5 l5.length c5) hr5 hrw)
   have HTf:=X1 (YB (o:=0) (v:= .slice p5 l5.length c5) (HT4.out.trans ht5) (Nat.le_refl _))
   clear nr5 hX5 hr5 ht5
   go_wp2
   exact bodyPost_ret (v:= .agg #[.slice p5 l5.length c5]) (by simp [results,Tryz.results18,go_sem,t0]) rfl ⟨_,_,rfl,HNf.out,by omega,HRf.out.mono (by omega),HTf.out⟩
  ·go_wp2_with fail
   refine (HPR.out _ _ HR1.out (by omega)).mono ?_
   rintro e w5 ⟨v5,l5,rfl,nr5,m5,hr5,ht5⟩
   obtain ⟨p5,c5,hv5⟩:=nr5.val
   subst hv5
   have hX5:=Tf.same ht5 HX1.out Z2
   have t0:=(XI hX5).1
   have ft:=(XI hX5).2
   have hty:tyAt w5 w.heap.size≠some 33:=by unfold tyAt;rw [hX5];decide
   have HNf:Hid (NR (w5.setCell ⟨w.heap.size,0,none⟩ (.slice p5 l5.length c5)) (.slice p5 l5.length c5) l5):=X1 ⟨XW nr5.1 hty,nr5.2⟩
   have HRf:=X1 (Rq.set (o:=0) (v:= .slice p5 l5.length c5) hr5 hrw)
   have HTf:=X1 (YB (o:=0) (v:= .slice p5 l5.length c5) ((Ty.tf HT1.out).trans ht5) (Nat.le_refl _))
   clear nr5 hX5 hr5 ht5
   go_wp2
   exact bodyPost_ret (v:= .agg #[.slice p5 l5.length c5]) (by simp [results,Tryz.results18,go_sem,t0]) rfl ⟨_,_,rfl,HNf.out,by omega,HRf.out.mono (by omega),HTf.out⟩
def DTk [Inhabited Bs] (w:World) (e:Ending) (w':World):Prop:=∃ v l,e = .returned (.agg #[v])∧NR w' v l∧l.length≤300000∧Tf w w'
set_option maxRecDepth 100000 in
set_option maxHeartbeats 4000000 in
theorem drawValid_any [Inhabited Bs] (HPR:∀ rb vb n q w,Rq rb vb n q w→q≤90000000→Calls Tryz.prog 39 #[.pointer (some ⟨rb,0,none⟩)] w fun e w'=>RTk rb vb n q 250010 w e w') (HSP:∀ rb vb n,SpoilAt rb vb n) (m:Nat) (v:Value) (w:World) (h:ByV w v m) (hB:lowB≤w.heap.size):Calls Tryz.prog 10 #[v] w fun e w'=>DTk w e w':=by
 have b0:Below w.heap.size w (w.alloc (.cells #[.slice none 0 0] 25)):=bA _
 have hb:ByV (w.alloc (.cells #[.slice none 0 0] 25)) v m:=by
  rcases h with h | ⟨g,o,c,h1,h2,h3,h4,h5⟩
  ·exact .inl h
  ·refine .inr ⟨g,o,c,h1,h2,h3,Nat.lt_of_lt_of_le h4 b0.size,fun i hi=>?_⟩
   obtain ⟨k,hk,hc⟩:=h5 i hi
   exact ⟨k,hk,(b0.cell (p:=⟨g,o+i,none⟩) h4).trans hc⟩
 have HO:=X1 (open_any m v _ hb (Nat.le_trans hB b0.size))
 have HT0:Hid (Ty w (w.alloc (.cells #[.slice none 0 0] 25))):=X1 (.of b0)
 have HX0:Hid ((w.alloc (.cells #[.slice none 0 0] 25)).heap[w.heap.size]?=some (.cells #[.slice none 0 0] 25)):=X1 (Xf w _)
 have HPR:=X1 HPR
 have HSP:=X1 HSP
 clear b0 hb
 obtain ⟨vp,vl,vc,hv⟩:∃ p l c,v = .slice p l c:=by
  rcases h with ⟨q,c,h,_⟩ | ⟨g,o,c,h,_⟩
  ·exact ⟨_,_,_,h⟩
  ·exact ⟨_,_,_,h⟩
 subst hv
 clear h
 go_enter Tryz.func10,Tryz.ntmps10
 go_wp2_with fail
 refine HO.out.mono ?_
 rintro e w1 ⟨rb,vb,n,rfl,hrb,hr1,b1⟩
 have HR1:Hid (Rq rb vb n 0 w1):=X1 ⟨0,Nat.le_refl _,hr1⟩
 have HT1:=X1 (HT0.out.trans (.of b1))
 have HX1:=X1 (TyM.same HX0.out b1)
 have hrw:w.heap.size < rb:=by simp at hrb;omega
 clear hr1 b1
 go_wp2_with fail
 refine (any2_any rb vb n (HPR.out rb vb n) (HSP.out rb vb n) 0 w1 HR1.out (by omega)).mono ?_
 rintro e w2 ⟨v2,l2,rfl,nr2,m2,hr2,ht2⟩
 obtain ⟨p2,c2,hv2⟩:=nr2.val
 subst hv2
 have b3:Below w2.heap.size w2 (w2.alloc (.cells #[.slice p2 l2.length c2] 25)):=bA _
 have HR3:=X1 (hr2.below b3)
 have HT3:=X1 (((Ty.tf HT1.out).trans ht2).trans (.of b3))
 have HX3:=X1 (TyM.same (Tf.same ht2 HX1.out Z2) b3)
 have HN3:=X1 (nr2.below b3)
 have HY3:Hid ((w2.alloc (.cells #[.slice p2 l2.length c2] 25)).heap[w2.heap.size]?=some (.cells #[.slice p2 l2.length c2] 25)):=X1 (Xf w2 _)
 clear nr2 hr2 ht2 b3
 go_wp2_with fail
 refine (Rq.pick HR3.out (by omega) 2 (by omega) (by omega)).mono ?_
 rintro e w4 ⟨z4,hz4,rfl,hr4,ht4⟩
 have HX4:=X1 (Ty.same ht4 HX3.out Xq)
 have HY4:=X1 (Ty.same ht4 HY3.out Xq)
 have y4:=(XI HY4.out).1
 have nr4:=HN3.out.ty ht4
 have HT4:=X1 (HT3.out.trans (Ty.tf ht4))
 by_cases hz0:z4=0
 ·subst hz0
  have HQ:=X1 (HSP.out rb vb n _ _ _ _ hr4 nr4 (by omega) (by omega))
  clear nr4 hr4 ht4
  go_wp2_with fail
  refine HQ.out.mono ?_
  rintro e w5 ⟨v5,l5,rfl,nr5,m5,hr5,ht5⟩
  obtain ⟨p5,c5,hv5⟩:=nr5.val
  subst hv5
  have hX5:=Tf.same ht5 HX4.out Z2
  clear hr5
  have t0:=(XI hX5).1
  have ft:=(XI hX5).2
  have hty:tyAt w5 w.heap.size≠some 33:=by unfold tyAt;rw [hX5];decide
  have HNf:Hid (NR (w5.setCell ⟨w.heap.size,0,none⟩ (.slice p5 l5.length c5)) (.slice p5 l5.length c5) l5):=X1 ⟨XW nr5.1 hty,nr5.2⟩
  have HTf:=X1 (YB (o:=0) (v:= .slice p5 l5.length c5) (HT4.out.trans ht5) (Nat.le_refl _))
  clear nr5 hX5
  go_wp2
  exact bodyPost_ret (v:= .agg #[.slice p5 l5.length c5]) (by simp [results,Tryz.results10,go_sem,t0]) rfl ⟨_,_,rfl,HNf.out,by omega,HTf.out⟩
 ·have hz0b:((z4:Int) == 0)=false:=by simp;omega
  have hX4:=HX4.out
  clear hr4 ht4
  have t0:=(XI hX4).1
  have ft:=(XI hX4).2
  have hty:tyAt w4 w.heap.size≠some 33:=by unfold tyAt;rw [hX4];decide
  have HNf:Hid (NR (w4.setCell ⟨w.heap.size,0,none⟩ (.slice p2 l2.length c2)) (.slice p2 l2.length c2) l2):=X1 ⟨XW nr4.1 hty,nr4.2⟩
  have HTf:=X1 (YB (o:=0) (v:= .slice p2 l2.length c2) (HT4.out) (Nat.le_refl _))
  clear nr4 hX4
  go_wp2
  exact bodyPost_ret (v:= .agg #[.slice p2 l2.length c2]) (by simp [results,Tryz.results10,go_sem,t0]) rfl ⟨_,_,rfl,HNf.out,by omega,HTf.out⟩
set_option maxRecDepth 100000 in
set_option maxHeartbeats 4000000 in
theorem drawCheck_any [Inhabited Bs] (HPR:∀ rb vb n q w,Rq rb vb n q w→q≤90000000→Calls Tryz.prog 39 #[.pointer (some ⟨rb,0,none⟩)] w fun e w'=>RTk rb vb n q 250010 w e w') (HSP:∀ rb vb n,SpoilAt rb vb n) (m:Nat) (v:Value) (w:World) (h:ByV w v m) (hB:lowB≤w.heap.size):Calls Tryz.prog 4 #[v] w fun e w'=>DTk w e w':=by
 have b0:Below w.heap.size w (w.alloc (.cells #[.slice none 0 0] 25)):=bA _
 have hb:ByV (w.alloc (.cells #[.slice none 0 0] 25)) v m:=by
  rcases h with h | ⟨g,o,c,h1,h2,h3,h4,h5⟩
  ·exact .inl h
  ·refine .inr ⟨g,o,c,h1,h2,h3,Nat.lt_of_lt_of_le h4 b0.size,fun i hi=>?_⟩
   obtain ⟨k,hk,hc⟩:=h5 i hi
   exact ⟨k,hk,(b0.cell (p:=⟨g,o+i,none⟩) h4).trans hc⟩
 have HO:=X1 (drawValid_any HPR HSP m v _ hb (Nat.le_trans hB b0.size))
 have HT0:Hid (Tf w (w.alloc (.cells #[.slice none 0 0] 25))):=X1 (.of b0)
 have HX0:Hid ((w.alloc (.cells #[.slice none 0 0] 25)).heap[w.heap.size]?=some (.cells #[.slice none 0 0] 25)):=X1 (Xf w _)
 clear b0 hb
 obtain ⟨vp,vl,vc,hv⟩:∃ p l c,v = .slice p l c:=by
  rcases h with ⟨q,c,h,_⟩ | ⟨g,o,c,h,_⟩
  ·exact ⟨_,_,_,h⟩
  ·exact ⟨_,_,_,h⟩
 subst hv
 clear h
 go_enter Tryz.func4,Tryz.ntmps4
 go_wp2_with fail
 refine HO.out.mono ?_
 rintro e w5 ⟨v5,l5,rfl,nr5,m5,ht5⟩
 obtain ⟨p5,c5,hv5⟩:=nr5.val
 subst hv5
 have hX5:=Tf.same ht5 HX0.out Z2
 have t0:=(XI hX5).1
 have ft:=(XI hX5).2
 have hty:tyAt w5 w.heap.size≠some 33:=by unfold tyAt;rw [hX5];decide
 have HNf:Hid (NR (w5.setCell ⟨w.heap.size,0,none⟩ (.slice p5 l5.length c5)) (.slice p5 l5.length c5) l5):=X1 ⟨XW nr5.1 hty,nr5.2⟩
 have HTf:=X1 (YB (o:=0) (v:= .slice p5 l5.length c5) (HT0.out.trans ht5) (Nat.le_refl _))
 clear nr5 hX5
 go_wp2
 exact bodyPost_ret (v:= .agg #[.slice p5 l5.length c5]) (by simp [results,Tryz.results4,go_sem,t0]) rfl ⟨_,_,rfl,HNf.out,by omega,HTf.out⟩
theorem Tryz.infoFnC:(Tryz.prog.info? 137).map (fun i=>(i.zero,i.size,i.bytes))=some (some (.agg #[.string ⟨#[]⟩,.slice none 0 0,.int .i64 0,.int .i64 0]),4,56):=by kernel_rfl
theorem Tryz.infoIntC:(Tryz.prog.info? 3).map (fun i=>(i.zero,i.size,i.bytes))=some (some (.int .i64 0),1,8):=by kernel_rfl
theorem FnC.snoc [Inhabited Bs] {w:World} {ys:List Value} {m:Nat} (h:FnC w ys m) (hl:ys.length=m*4) (s:Short) (pv:Value) (ps:List Int) (f z:Int) (hp:w.ownsRow 0 3 1 pv ps.length (ps.map (Value.int .i64))) (hp3:ps.length≤3) (hf0:0≤f) (hf3:f≤3):FnC w (ys++[.string s,pv,.int .i64 f,.int .i64 z]) (m+1):=fun i hi=>by
 by_cases hk:i < m
 ·obtain ⟨s',pv',ps',f',z',h1,h2,h3,h4,h5⟩:=h i hk
  exact ⟨s',pv',ps',f',z',by rw [List.getElem?_append_left (by omega)];exact h1,by rw [List.getElem?_append_left (by omega)];exact h2,by rw [List.getElem?_append_left (by omega)];exact h3,by rw [List.getElem?_append_left (by omega)];exact h4,h5⟩
 ·obtain rfl:i=m:=by omega
  refine ⟨s,pv,ps,f,z,?_,?_,?_,?_,hp,hp3,hf0,hf3⟩
  ·rw [List.getElem?_append_right (by omega),hl,show i*4 - i*4=0 from by omega];rfl
  ·rw [List.getElem?_append_right (by omega),hl,show i*4+1 - i*4=1 from by omega];rfl
  ·rw [List.getElem?_append_right (by omega),hl,show i*4+2 - i*4=2 from by omega];rfl
  ·rw [List.getElem?_append_right (by omega),hl,show i*4+3 - i*4=3 from by omega];rfl
theorem Gn.pushFn [Inhabited Bs] {gb rb:Nat} {vb:Value} {n q k:Nat} {w w':World} (h:Gn gb rb vb n q k w) {v v':Value} (hv:w.cell? ⟨gb,2,none⟩=some v) (hg:w.grownBy w' v.ownBlock) {m':Nat} {ys:List Value} (hx:w'.ownsRow (rb+1) 137 4 v' m' ys) (hs:FnC w' ys m') (hm:m'≤1000):Gn gb rb vb n q k (w'.setCell ⟨gb,2,none⟩ v'):=by
 have hl:=h.lt
 have hup:=h.up
 obtain ⟨v0,m0,ys0,f1,f2,f3,f4⟩:=h.fn
 obtain rfl:v0=v:=by rw [f1] at hv;exact Option.some.inj hv
 have own:∀ b,v0.ownBlock=some b→rb+1≤b∧tyAt w b=some 137:=fun b hb=>⟨(f2.lt b hb).1,XM f2 hb⟩
 have kt:∀ t,t≠137→∀ q,q < w.heap.size→tyAt w q=some t→w'.heap[q]?=w.heap[q]?:=fun t ht q hq hty=>hg.block q hq (fun e=>by have:=(own q e.symm).2;rw [hty] at this;exact ht (Option.some.inj this))
 have eb:=kt _ (by decide) gb hl h.ty
 have hty:tyAt w' gb=some 111:=(XS eb).trans h.ty
 have cb:∀ j,j≠2→(w'.setCell ⟨gb,2,none⟩ v').cell? ⟨gb,j,none⟩=w.cell? ⟨gb,j,none⟩:=fun j hj=>(World.cell?_setCell_other _ _ _ _ (fun e=>hj (congrArg Addr.off e).symm)).trans (World.cell?_of_block (a:=⟨gb,j,none⟩) eb)
 have sb:∀ b,b≠gb→(w'.setCell ⟨gb,2,none⟩ v').heap[b]?=w'.heap[b]?:=fun b hb=>Below.heap_setCell _ _ _ _ hb
 have kt2:∀ t,t≠137→t≠111→∀ q,q < w.heap.size→tyAt w q=some t→(w'.setCell ⟨gb,2,none⟩ v').heap[q]?=w.heap[q]?:=fun t h1 h2 q hq hq2=>(sb q (fun e=>by rw [e,h.ty] at hq2;exact h2 (Option.some.inj hq2).symm)).trans (kt t h1 q hq hq2)
 obtain ⟨p,hp,hr⟩:=h.R
 obtain ⟨vn,xs,n1,n2,n3⟩:=h.nm
 obtain ⟨c,hc,h5⟩:=h.ct
 obtain ⟨z,hz,hz1,h6⟩:=h.sz
 exact ⟨⟨p,hp,hr.upto (fun b hb=>(sb b (by omega)).trans (hg.block b (by omega) (fun e=>by have:=(own b e.symm).1;omega)))⟩,hup,by rw [Kj];exact hty,(cb 0 (by decide)).trans h.c0,⟨vn,xs,(cb 1 (by decide)).trans n1,YF n2 (kt2 _ (by decide) (by decide)),n3⟩,⟨v',m',ys,World.cell?_setCell_same _ _ _ ((World.cell?_of_block (a:=⟨gb,2,none⟩) eb).trans f1),XW hx (by rw [hty];decide),hm,hs.keep (fun q' _ hq'=>Below.heap_setCell _ _ _ _ (fun e=>by have e':q'=gb:=e;rw [e',hty] at hq';cases hq'))⟩,⟨c,by omega,(cb 3 (by decide)).trans h5⟩,⟨z,by omega,hz1,(cb 4 (by decide)).trans h6⟩,fun j=>by rw [World.frozen?_setCell];exact (World.frozen?_of_block (a:=⟨gb,j,none⟩) eb).trans (h.fr j),h.km⟩
section
variable {P:Program} {ops:Array Oper} {Q:Exit→Act→World→Prop} {md:Region.Mode}
theorem K0 [Inhabited Bs] {l:Array Bool} {i:Nat} (h:i∈Region.ready md ops l):∃ o,ops[i]?=some o∧l[i]?=some false∧∀ e∈o.after,Region.binds md e=true→l[e.on]?=some true:=by
 unfold Region.ready at h
 rw [List.mem_filter,List.mem_range] at h
 obtain ⟨h1,h2⟩:=h
 have ho:ops[i]?=some ops[i]:=Array.getElem?_eq_getElem h1
 rw [ho] at h2
 simp only [Option.map_some,Option.getD_some,Bool.and_eq_true,Bool.not_eq_true',Array.all_eq_true'] at h2
 refine ⟨_,ho,?_,fun e he hb=>?_⟩
 ·have:=h2.1
  rw [Array.getD_eq_getD_getElem?] at this
  cases hl:l[i]? with
  | none=>rw [hl] at this;cases this
  | some b=>rw [hl] at this;simp only [Option.getD_some] at this;rw [this]
 ·have:=h2.2 e he
  rw [hb] at this
  simp only [Bool.not_true,Bool.false_or] at this
  rw [Array.getD_eq_getD_getElem?] at this
  cases hl:l[e.on]? with
  | none=>rw [hl] at this;cases this
  | some b=>rw [hl] at this;simp only [Option.getD_some] at this;rw [this]
theorem ready_memI [Inhabited Bs] {l:Array Bool} {i:Nat} {o:Oper} (ho:ops[i]?=some o) (hl:l[i]?=some false) (hd:∀ e∈o.after,l[e.on]?=some true):i∈Region.ready md ops l:=by
 unfold Region.ready
 rw [List.mem_filter,List.mem_range]
 refine ⟨(Array.getElem?_eq_some_iff.1 ho).1,?_⟩
 rw [ho,Array.getD_eq_getD_getElem?,hl]
 simp only [Option.map_some,Option.getD_some,Bool.not_false,Bool.true_and,Array.all_eq_true']
 intro e he
 rw [Array.getD_eq_getD_getElem?,hd e he]
 simp
theorem wpAny_inv [Inhabited Bs] (Inv:Array Bool→Act→World→Prop)
  (hs:∀ l a w,Inv l a w→∀ i∈Region.ready md ops l,wpOp P ops Q i (fun a' w'=>Inv (l.setIfInBounds i true) a' w') a w)
  (hf:∀ l a w,Inv l a w→Region.ready md ops l=[]→Q .normal a w) :
  ∀ fuel l a w,l.toList.count false≤fuel→Inv l a w→wpAny P md ops Q fuel l a w:=by
 intro fuel
 induction fuel with
 | zero =>
  intro l a w hc hI
  have hr:Region.ready md ops l=[]:=by
   rw [List.eq_nil_iff_forall_not_mem]
   intro i hi
   obtain ⟨o,_,h2,_⟩:=K0 hi
   have:false∈l.toList:=by rw [Array.mem_toList_iff];exact Array.mem_of_getElem? h2
   have:=List.count_pos_iff.2 this
   omega
  exact ⟨hr,hf l a w hI hr⟩
 | succ fuel ih =>
  intro l a w hc hI
  refine ⟨hf l a w hI,fun i hi=>wpOp_mono (fun a' w' h=>ih _ _ _ ?_ h) (hs l a w hI i hi)⟩
  obtain ⟨o,_,h2,_⟩:=K0 hi
  obtain ⟨hlt,h3⟩:=Array.getElem?_eq_some_iff.1 h2
  have hm:false∈l.toList:=by rw [Array.mem_toList_iff];exact Array.mem_of_getElem? h2
  have hp:=List.count_pos_iff.2 hm
  rw [Array.toList_setIfInBounds,List.count_set (by simpa using hlt)]
  simp only [Array.getElem_toList,h3,beq_self_eq_true,if_true,show (true == false)=false from rfl,Bool.false_eq_true,if_false]
  omega
theorem Y6 [Inhabited Bs] {i:Nat} {o:Oper} {a:Act} {w:World} {K:Act→World→Prop} (ho:ops[i]?=some o) (h:if Region.wanted o (yielded ops a.tmps)=true then Oper.wp P o a w K Q else K (a.put o.dst undef) w):wpOp P ops Q i K a w:=by
 unfold wpOp
 rw [ho]
 simp only
 split
 ·rename_i hw;rw [if_pos hw] at h;exact .inl h
 ·rename_i hw;rw [if_neg hw] at h;exact h
theorem ready_full [Inhabited Bs] {l:Array Bool} (hr:Region.ready md ops l=[]) (hl:l.size=ops.size) (hd:∀ (i:Nat) (o:Oper),ops[i]?=some o→∀ e∈o.after,e.on < i):∀ i,i < ops.size→l[i]?=some true:=by
 intro i
 induction i using Nat.strongRecOn with
 | ind i ih =>
  intro hi
  have ho:ops[i]?=some ops[i]:=Array.getElem?_eq_getElem hi
  have hb:l[i]?=some l[i]:=Array.getElem?_eq_getElem (by omega)
  cases hc:l[i] with
  | true=>rw [hb,hc]
  | false =>
   exfalso
   have hm:i∈Region.ready md ops l:=ready_memI ho (by rw [hb,hc]) (fun e he=>by
    have h1:=hd i _ ho e he
    exact ih _ h1 (by omega))
   rw [hr] at hm
   cases hm
def Down (md:Region.Mode) (ops:Array Oper) (l:Array Bool):Prop:=∀ (j:Nat) (o:Oper),ops[j]?=some o→l[j]?=some true→∀ e∈o.after,Region.binds md e=true→l[e.on]?=some true
theorem set_keep [Inhabited Bs] {l:Array Bool} {i j:Nat} (h:l[j]?=some true):(l.setIfInBounds i true)[j]?=some true:=by
 rw [Array.getElem?_setIfInBounds]
 split
 ·rename_i e
  subst e
  rw [if_pos (Array.getElem?_eq_some_iff.1 h).1]
 ·exact h
theorem YK [Inhabited Bs] {l:Array Bool} {i j:Nat} (h:i≠j):(l.setIfInBounds i true)[j]?=l[j]?:=by rw [Array.getElem?_setIfInBounds,if_neg h]
theorem Qe [Inhabited Bs] {l:Array Bool} {i:Nat} (h:l[i]?=some false):(l.setIfInBounds i true)[i]?=some true:=by rw [Array.getElem?_setIfInBounds,if_pos rfl,if_pos (Array.getElem?_eq_some_iff.1 h).1]
theorem Down.step [Inhabited Bs] {l:Array Bool} {i:Nat} (h:Down md ops l) (hi:i∈Region.ready md ops l):Down md ops (l.setIfInBounds i true):=fun j o ho hl e he hb=>by
 by_cases hj:i=j
 ·subst hj
  obtain ⟨o',ho',_,h3⟩:=K0 hi
  rw [ho] at ho'
  obtain rfl:=Option.some.inj ho'
  exact set_keep (h3 e he hb)
 ·rw [YK hj] at hl
  exact set_keep (h j o ho hl e he hb)
theorem Down.all [Inhabited Bs] {l:Array Bool} {m:Nat} (h:Down md ops l) (hc:∀ j,j < m→∃ (j':Nat) (o:Oper),j < j'∧j'≤m∧ops[j']?=some o∧∃ e∈o.after,Region.binds md e=true∧e.on=j) (hm:l[m]?=some true):∀ d j,j+d=m→l[j]?=some true:=by
 intro d
 induction d using Nat.strongRecOn with
 | ind d ih =>
  intro j hj
  rcases Nat.eq_zero_or_pos d with rfl | hd
  ·rw [show j=m by omega];exact hm
  ·obtain ⟨j',o,h1,h2,h3,e,he,hb,rfl⟩:=hc j (by omega)
   exact h j' o h3 (ih (m - j') (by omega) j' (by omega)) e he hb
def depsB (ops:Array Oper):Bool:=(List.range ops.size).all fun i=>((ops[i]?).map fun o=>o.after.all fun e=>decide (e.on < i)).getD true
theorem depsB_at [Inhabited Bs] (h:depsB ops=true):∀ (i:Nat) (o:Oper),ops[i]?=some o→∀ e∈o.after,e.on < i:=fun i o ho e he=>by
 have h1:=List.all_eq_true.1 h i (List.mem_range.2 (Array.getElem?_eq_some_iff.1 ho).1)
 rw [ho] at h1
 simp only [Option.map_some,Option.getD_some,Array.all_eq_true',decide_eq_true_eq] at h1
 exact h1 e he
def upB (md:Region.Mode) (ops:Array Oper) (m:Nat):Bool:=(List.range m).all fun j=>(List.range (m+1)).any fun k=>decide (j < k) && ((ops[k]?).map fun o=>o.after.any fun e=>Region.binds md e && e.on == j).getD false
theorem upB_at [Inhabited Bs] {m:Nat} (h:upB md ops m=true):∀ j,j < m→∃ (j':Nat) (o:Oper),j < j'∧j'≤m∧ops[j']?=some o∧∃ e∈o.after,Region.binds md e=true∧e.on=j:=fun j hj=>by
 have h1:=List.all_eq_true.1 h j (List.mem_range.2 hj)
 obtain ⟨k,hk,h2⟩:=List.any_eq_true.1 h1
 rw [List.mem_range] at hk
 simp only [Bool.and_eq_true,decide_eq_true_eq] at h2
 cases ho:ops[k]? with
 | none=>rw [ho] at h2;exact absurd h2.2 (by simp)
 | some o =>
  rw [ho] at h2
  have h3:=h2.2
  simp only [Option.map_some,Option.getD_some,Array.any_eq_true'] at h3
  obtain ⟨e,he,h4⟩:=h3
  simp only [Bool.and_eq_true,beq_iff_eq] at h4
  exact ⟨k,o,h2.1,by omega,ho,e,he,h4.1,h4.2⟩
def IsOp (ops:Array Oper) (i:Nat) (d:Nat) (op:Op):Prop:=∃ o,ops[i]?=some o∧o.dst=some d∧o.op=op∧o.guard=none
def onB (md:Region.Mode) (ops:Array Oper) (i j:Nat):Bool:=((ops[i]?).map fun o=>o.after.any fun e=>Region.binds md e && e.on == j).getD false
theorem Yw [Inhabited Bs] {i j:Nat} {l:Array Bool} (h:onB md ops i j=true) (hi:i∈Region.ready md ops l):l[j]?=some true:=by
 obtain ⟨o,ho,_,h3⟩:=K0 hi
 unfold onB at h
 rw [ho] at h
 simp only [Option.map_some,Option.getD_some,Array.any_eq_true'] at h
 obtain ⟨e,he,h4⟩:=h
 simp only [Bool.and_eq_true,beq_iff_eq] at h4
 rw [← h4.2]
 exact h3 e he h4.1
theorem Y7 [Inhabited Bs] {o:Oper} {a:Act} {w:World} {K:Act→World→Prop} {E:Prop} {v:Value} {w':World} (hg:o.guard=none) (h:(execOp a.eval o).run P w = .ok (.value v) w') (hK:K (a.put o.dst v) w'):if Region.wanted o (yielded ops a.tmps)=true then Oper.wp P o a w K Q else E:=by
 rw [if_pos (by simp [Region.wanted,hg])]
 unfold Oper.wp
 rw [h]
 exact hK
end
theorem eval_same [Inhabited Bs] {a:Act} {t:Nat} {v:Value} (h:t < a.tmps.size):(a.put (some t) v).eval (.tmp t)=v:=by
 simp [Act.put,Act.eval,h]
theorem eval_other [Inhabited Bs] {a:Act} {t t':Nat} {v:Value} (h:t≠t'):(a.put (some t) v).eval (.tmp t')=a.eval (.tmp t'):=by
 simp [Act.put,Act.eval,h]
end Go.Proofs.YthbfdaifgnhkbaaGreatDoor
