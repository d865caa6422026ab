/- Cx, Cr, Ct, Gf. -/
import Derived.Test.YtimbaebigjjkaaaGreatDoorP26
import Derived.Test.YtimbaebigjjkaaaGreatDoorP17
import Derived.Test.YtimbaebigjjkaaaGreatDoorP22
namespace Go.Proofs.YtimbaebigjjkaaaGreatDoor
open Go.RowKit
def fixedV:List Value:=[.string ⟨#[108,101,116,32,115,48,32,61,32,108,101,116,32,110,49,32,61,32,49,32,105,110,32,91,110,49,32,102,111,114,32,110,49,32,105,110,32,91,110,49,93,93,59,10,101,109,105,116,32,123,118,58,32,115,48,125,59,10]⟩,.string ⟨#[108,101,116,32,115,48,32,61,32,108,101,116,32,110,49,32,61,32,49,32,105,110,32,91,110,49,32,43,32,110,50,32,102,111,114,32,110,50,32,105,110,32,91,110,49,93,32,105,102,32,110,49,32,61,61,32,110,50,93,59,10,101,109,105,116,32,123,118,58,32,115,48,125,59,10]⟩,.string ⟨#[108,101,116,32,115,48,32,61,32,108,101,116,32,110,49,32,61,32,49,32,105,110,32,40,102,110,40,110,49,32,61,32,50,41,32,61,62,32,110,49,41,40,41,32,43,32,110,49,59,10,101,109,105,116,32,123,118,58,32,115,48,125,59,10]⟩,.string ⟨#[108,101,116,32,115,48,32,61,32,108,101,116,32,110,49,32,61,32,49,32,105,110,32,40,102,110,40,110,50,44,32,110,49,32,61,32,110,49,41,32,61,62,32,91,110,49,44,32,110,50,93,41,40,110,49,41,59,10,101,109,105,116,32,123,118,58,32,115,48,125,59,10]⟩,.string ⟨#[108,101,116,32,115,48,32,61,32,108,101,116,32,110,49,32,61,32,49,32,105,110,32,40,102,110,40,110,49,44,32,110,50,32,61,32,110,49,41,32,61,62,32,91,110,49,44,32,110,50,93,41,40,55,41,59,10,101,109,105,116,32,123,118,58,32,115,48,125,59,10]⟩,.string ⟨#[108,101,116,32,121,32,61,32,53,59,10,100,101,102,32,102,40,120,44,32,121,32,61,32,121,41,32,61,32,91,120,44,32,121,93,59,10,101,109,105,116,32,123,118,58,32,102,40,49,41,125,59,10]⟩,.string ⟨#[100,101,102,32,102,40,120,44,32,121,32,61,32,121,41,32,61,32,120,59,10]⟩,.string ⟨#[100,101,102,32,102,40,120,32,61,32,120,41,32,61,32,120,59,10,108,101,116,32,120,32,61,32,51,59,10,101,109,105,116,32,123,118,58,32,102,40,41,125,59,10]⟩,.string ⟨#[108,101,116,32,115,48,32,61,32,108,101,116,32,110,49,32,61,32,34,110,101,119,95,110,97,109,101,34,32,105,110,32,110,49,32,43,32,34,110,50,34,59,10,101,109,105,116,32,123,110,101,119,95,110,97,109,101,58,32,115,48,44,32,118,58,32,115,48,46,110,49,125,59,10]⟩,.string ⟨#[100,101,102,32,108,101,110,40,120,41,32,61,32,55,59,10,108,101,116,32,97,32,61,32,108,101,110,40,49,41,59,10,101,109,105,116,32,123,118,58,32,97,125,59,10]⟩,.string ⟨#[108,101,116,32,97,32,61,32,108,101,110,40,91,49,93,41,59,10,100,101,102,32,108,101,110,40,120,41,32,61,32,55,59,10,101,109,105,116,32,123,118,58,32,97,125,59,10]⟩,.string ⟨#[108,101,116,32,110,32,61,32,49,59,10,108,101,116,32,102,32,61,32,102,110,40,120,41,32,61,62,32,110,32,43,32,120,59,10,100,101,102,32,103,40,110,41,32,61,32,102,40,110,41,59,10,101,109,105,116,32,123,118,58,32,103,40,49,48,41,125,59,10]⟩,.string ⟨#[108,101,116,32,102,32,61,32,102,110,40,120,41,32,61,62,32,91,120,44,32,110,93,59,10,108,101,116,32,115,48,32,61,32,108,101,116,32,110,32,61,32,50,32,105,110,32,102,40,110,41,59,10,108,101,116,32,110,32,61,32,57,59,10]⟩,.string ⟨#[108,101,116,32,114,32,61,32,123,97,58,32,49,125,59,10,101,109,105,116,32,123,118,58,32,115,111,114,116,101,100,40,91,114,44,32,123,98,58,32,50,125,44,32,114,93,41,44,32,119,58,32,117,110,105,113,117,101,40,91,114,44,32,123,98,58,32,50,125,44,32,114,93,41,125,59,10]⟩,.string ⟨#[101,109,105,116,32,123,95,58,32,49,44,32,95,95,58,32,123,95,97,58,32,50,125,44,32,34,97,45,98,34,58,32,51,125,59,10]⟩]
theorem fixed_at [LB] (z:Nat) (hz:z < 15):∃ s:ByteArray,fixedV[z]?=some (.string s)∧s.size≤1000:=by
 have:z=0∨z=1∨z=2∨z=3∨z=4∨z=5∨z=6∨z=7∨z=8∨z=9∨z=10∨z=11∨z=12∨z=13∨z=14:=by omega
 rcases this with rfl | rfl | rfl | rfl | rfl | rfl | rfl | rfl | rfl | rfl | rfl | rfl | rfl | rfl | rfl
 all_goals exact ⟨_,rfl,by decide⟩
set_option maxRecDepth 100000 in
set_option maxHeartbeats 2000000 in
theorem fixed_any [LB] (w:World):Calls Tryz.prog 33 #[] w fun e w'=>e = .returned (.slice (some ⟨w.heap.size,0,none⟩) 15 15)∧w'.ownsRow 0 9 1 (.slice (some ⟨w.heap.size,0,none⟩) 15 15) 15 fixedV∧Below w.heap.size w w':=by
 have HL:=X1 (World.ownsRow_lit (base:=0) (e:=9) (size:=1) w fixedV.toArray 15 (Nat.zero_le _) (by unfold maxLen;omega) rfl)
 go_enter Tryz.func33,Tryz.ntmps33
 go_wp2
 go_ret
 exact ⟨rfl,HL.o,bA _⟩
variable (rb:Nat) (vb:Value) (n:Nat)
def SpoilAt [LB]:Prop:=∀ (q:Nat) (v:Value) (l:List Tr.Nd) (w:World),Rq rb vb n q w→NR w v l→l.length≤300000→q≤700000000→Calls Tryz.prog 35 #[.pointer (some ⟨rb,0,none⟩),.agg #[v]] w fun e w'=>∃ v' l',e = .returned (.agg #[v'])∧NR w' v' l'∧l'.length≤l.length+1∧Rq rb vb n (q+10) w'∧Tf w w'
theorem NR.val [LB] {w:World} {v:Value} {l:List Tr.Nd} (h:NR w v l):∃ p c,v = .slice p l.length c:=Xc h.1
theorem NR.setT [LB] {w:World} {b o:Nat} {v u:Value} {l:List Tr.Nd} (h:NR w v l) (ht:tyAt w b≠some 35):NR (w.setCell ⟨b,o,none⟩ u) v l:=⟨Yb h.1 ht,h.2⟩
theorem Tr.plain_short [LB] {x:Tr.Nd} (h:X9 x=true):x.text.size≤1000000:=by
 unfold X9 at h
 split at h
 ·cases h
 ·rename_i h0
  cases hk:XA x.kind
  ·have h1:(x.text.toList == [])=true:=by
    cases hc:(x.text.toList == [])
    ·exact absurd (by simp [hk,hc]) h0
    ·rfl
   rw [ByteArray.toList_eq] at h1
   have h2:x.text.data.toList=[]:=by simpa using h1
   have h3:x.text.data.toList.length=0:=by rw [h2];rfl
   have h4:x.text.size=x.text.data.toList.length:=rfl
   omega
  ·have n2:x.kind≠2:=fun e=>by rw [e] at hk;revert hk;decide
   have n3:x.kind≠3:=fun e=>by rw [e] at hk;revert hk;decide
   have n6:x.kind≠6:=fun e=>by rw [e] at hk;revert hk;decide
   have n7:x.kind≠7:=fun e=>by rw [e] at hk;revert hk;decide
   rw [if_neg n2,if_neg n3] at h
   split at h
   ·have:=of_decide_eq_true h
    omega
   ·split at h
    ·unfold ZW at h
     simp only [Bool.and_eq_true] at h
     have:=Zh h.1
     omega
    ·simp only [hk,Bool.not_true,Bool.false_or] at h
     unfold XZ at h
     simp only [Bool.and_eq_true] at h
     have:=Zh h.1.1.1
     omega
theorem Tr.vgo_plain [LB] {ns:List Tr.Nd}:∀ (r:List (Tr.Nd × List Nat)) (hs:List Nat),Zz ns r hs=true→∀ p∈r,X9 p.1=true:=by
 intro r
 induction r with
 | nil=>intro hs _ p hp;cases hp
 | cons a r ih =>
  intro hs h p hp
  obtain ⟨d,k⟩:=a
  simp only [Zz,Bool.and_eq_true] at h
  rcases List.mem_cons.1 hp with rfl | hp
  ·exact h.1.1.2
  ·exact ih _ h.2 p hp
theorem Tr.valid_short [LB] {l:List Tr.Nd} (h:XS l=true):Sh l:=fun x hx=>by
 unfold XS at h
 simp only [Bool.and_eq_true] at h
 obtain ⟨i,hi,rfl⟩:=List.getElem_of_mem hx
 have hl:=Zs h.1.2
 have hz:i < (l.zip (Xf l)).length:=by rw [List.length_zip];omega
 have:=Tr.vgo_plain _ _ h.2 _ (List.getElem_mem hz)
 rw [List.getElem_zip] at this
 exact Tr.plain_short this
theorem sh_nil [LB]:Sh []:=fun _ hx=>by cases hx
theorem Pr.Parsed.short [LB] {s:ByteArray} {r:List Tr.Nd × Nat × Nat} (h:Pr.Parsed s r):Sh r.1:=by
 rcases h with ⟨h1,rfl⟩ | ⟨h1,d,hd,rfl⟩
 ·exact sh_nil
 ·unfold ZA
  split
  ·exact sh_nil
  ·split
   ·rename_i _ hv
    exact Tr.valid_short hv
   ·exact sh_nil
set_option maxRecDepth 100000 in
set_option maxHeartbeats 4000000 in
theorem any2_any [LB] (HPR:∀ q w,Rq rb vb n q w→q≤90000000→Calls Tryz.prog 36 #[.pointer (some ⟨rb,0,none⟩)] w fun e w'=>RTk rb vb n q 250010 w e w') (HSP:SpoilAt rb vb n) (q:Nat) (w:World) (h:Rq rb vb n q w) (hq:q≤80000000):Calls Tryz.prog 12 #[.pointer (some ⟨rb,0,none⟩)] w fun e w'=>RTk rb vb n q 250030 w e w':=by
 have x:=h.lt
 have b0:Below w.heap.size w (w.alloc (.cells #[.slice none 0 0] 25)):=bA _
 have HR0:=X1 (h.below b0)
 have HT0:Hid (Ty w (w.alloc (.cells #[.slice none 0 0] 25))):=X1 (.of b0)
 have HX0:Hid ((w.alloc (.cells #[.slice none 0 0] 25)).heap[w.heap.size]?=some (.cells #[.slice none 0 0] 25)):=X1 (Xi w _)
 have HPR:=X1 HPR
 have HSP:=X1 HSP
 clear b0 h
 go_enter Tryz.func12,Tryz.ntmps12
 go_wp2_with fail
 refine (Rq.pick HR0.o (by omega) 30 (by omega) (by omega)).mono ?_
 rintro e w1 ⟨z1,hz1,rfl,hr1,z⟩
 have p:=X1 hr1
 have r:=X1 (HT0.o.trans z)
 have s:=X1 (Ty.same z HX0.o Xv)
 clear hr1 z
 by_cases h26:(26:Int) < (z1:Int)
 ·go_wp2_with fail
  refine (fixed_any w1).mono ?_
  rintro e w2 ⟨rfl,hl2,b2⟩
  have HR2:=X1 (p.o.below b2)
  have HT2:=X1 (r.o.trans (.of b2))
  have HX2:=X1 (TyM.same s.o b2)
  have HL2:=X1 hl2
  clear hl2 b2
  go_wp2_with fail
  refine (Rq.pick HR2.o (by omega) 15 (by omega) (by omega)).mono ?_
  rintro e w3 ⟨z3,hz3,rfl,hr3,y⟩
  have HR3:=X1 hr3
  have HT3:=X1 (HT2.o.trans y)
  have HX3:=X1 (Ty.same y HX2.o Xv)
  have HL3:=X1 (XO HL2.o y (by unfold Mine;simp))
  obtain ⟨s3,hs3,hsz⟩:=fixed_at z3 (by omega)
  have cl3:=XI HL3.o hs3
  clear hr3 y hs3
  go_wp2_with fail
  refine (sparse_any s3 w3 (by omega)).mono ?_
  rintro e w4 ⟨r4,j,v4,rfl,a0,b4⟩
  have hlen:=j.len
  have l:NR w4 v4 r4.1:=⟨ZN a0 (Nat.zero_le _),j.short⟩
  obtain ⟨p4,c4,B⟩:=l.val
  subst B
  generalize r4.1=l4 at *
  generalize r4.2.1=cd4 at *
  generalize r4.2.2=at4 at *
  have b5:Below w4.heap.size w4 (w4.alloc (.cells #[.slice p4 l4.length c4] 25)):=bA _
  have b6:Below w4.heap.size w4 ((w4.alloc (.cells #[.slice p4 l4.length c4] 25)).alloc (.cells #[.int .i64 cd4,.int .i64 at4] 37)):=b5.alloc b5.size _
  have t:=TyM.same (TyM.same HX3.o b4) b6
  have HR6:=X1 ((HR3.o.below b4).below b6)
  have HT6:=X1 ((HT3.o.trans (.of b4)).trans (.of b6))
  have HN6:=X1 (l.below b6)
  have t0:=(Xo t).1
  have ft:=(Xo t).2
  have k:tyAt ((w4.alloc (.cells #[.slice p4 l4.length c4] 25)).alloc (.cells #[.int .i64 cd4,.int .i64 at4] 37)) w.heap.size≠some 35:=by unfold tyAt;rw [t];decide
  have HY6:Hid (((w4.alloc (.cells #[.slice p4 l4.length c4] 25)).alloc (.cells #[.int .i64 cd4,.int .i64 at4] 37)).heap[w4.heap.size]?=some (.cells #[.slice p4 l4.length c4] 25)):=X1 (TyM.same (Xi w4 _) (bA _))
  have y0:=(Xo HY6.o).1
  clear l a0 b4 b5 b6 t j
  have f:=X1 (NR.setT (o:=0) (u:= .slice p4 l4.length c4) HN6.o k)
  have g:=X1 (Rq.set (o:=0) (v:= .slice p4 l4.length c4) HR6.o x)
  have i:=X1 (Zk (o:=0) (v:= .slice p4 l4.length c4) (Ty.tf HT6.o) (Nat.le_refl _))
  go_wp2
  exact bodyPost_ret (v:= .agg #[.slice p4 l4.length c4]) (by simp [results,Tryz.results12,go_sem,t0]) rfl ⟨_,_,rfl,f.o,by omega,g.o.mono (by omega),i.o⟩
 ·by_cases h0:z1=0
  ·subst h0
   go_wp2_with fail
   refine (edge_any rb vb n _ _ p.o (by omega)).mono ?_
   rintro e w5 ⟨v5,l5,rfl,b,m5,d,c⟩
   obtain ⟨p5,c5,m⟩:=b.val
   subst m
   have a:=Tf.same c s.o ZO
   have t0:=(Xo a).1
   have ft:=(Xo a).2
   have k:tyAt w5 w.heap.size≠some 35:=by unfold tyAt;rw [a];decide
   have f:Hid (NR (w5.setCell ⟨w.heap.size,0,none⟩ (.slice p5 l5.length c5)) (.slice p5 l5.length c5) l5):=X1 ⟨Yb b.1 k,b.2⟩
   have g:=X1 (Rq.set (o:=0) (v:= .slice p5 l5.length c5) d x)
   have i:=X1 (Zk (o:=0) (v:= .slice p5 l5.length c5) ((Ty.tf r.o).trans c) (Nat.le_refl _))
   clear b a d c
   go_wp2
   exact bodyPost_ret (v:= .agg #[.slice p5 l5.length c5]) (by simp [results,Tryz.results12,go_sem,t0]) rfl ⟨_,_,rfl,f.o,by omega,g.o.mono (by omega),i.o⟩
  have h0b:((z1:Int) == 0)=false:=by simp;omega
  by_cases h4:(z1:Int) < 4
  ·go_wp2_with fail
   refine (HPR.o _ _ p.o (by omega)).mono ?_
   rintro e w4 ⟨v4,l4,rfl,l,m4,hr4,A⟩
   obtain ⟨p4,c4,B⟩:=l.val
   subst B
   have HX4:=X1 (Tf.same A s.o ZO)
   have HT4:=X1 ((Ty.tf r.o).trans A)
   have HQ:=X1 (HSP.o _ _ _ _ hr4 l (by omega) (by omega))
   clear l hr4 A
   go_wp2_with fail
   refine HQ.o.mono ?_
   rintro e w5 ⟨v5,l5,rfl,b,m5,d,c⟩
   obtain ⟨p5,c5,m⟩:=b.val
   subst m
   have a:=Tf.same c HX4.o ZO
   have t0:=(Xo a).1
   have ft:=(Xo a).2
   have k:tyAt w5 w.heap.size≠some 35:=by unfold tyAt;rw [a];decide
   have f:Hid (NR (w5.setCell ⟨w.heap.size,0,none⟩ (.slice p5 l5.length c5)) (.slice p5 l5.length c5) l5):=X1 ⟨Yb b.1 k,b.2⟩
   have g:=X1 (Rq.set (o:=0) (v:= .slice p5 l5.length c5) d x)
   have i:=X1 (Zk (o:=0) (v:= .slice p5 l5.length c5) (HT4.o.trans c) (Nat.le_refl _))
   clear b a d c
   go_wp2
   exact bodyPost_ret (v:= .agg #[.slice p5 l5.length c5]) (by simp [results,Tryz.results12,go_sem,t0]) rfl ⟨_,_,rfl,f.o,by omega,g.o.mono (by omega),i.o⟩
  ·go_wp2_with fail
   refine (HPR.o _ _ p.o (by omega)).mono ?_
   rintro e w5 ⟨v5,l5,rfl,b,m5,d,c⟩
   obtain ⟨p5,c5,m⟩:=b.val
   subst m
   have a:=Tf.same c s.o ZO
   have t0:=(Xo a).1
   have ft:=(Xo a).2
   have k:tyAt w5 w.heap.size≠some 35:=by unfold tyAt;rw [a];decide
   have f:Hid (NR (w5.setCell ⟨w.heap.size,0,none⟩ (.slice p5 l5.length c5)) (.slice p5 l5.length c5) l5):=X1 ⟨Yb b.1 k,b.2⟩
   have g:=X1 (Rq.set (o:=0) (v:= .slice p5 l5.length c5) d x)
   have i:=X1 (Zk (o:=0) (v:= .slice p5 l5.length c5) ((Ty.tf r.o).trans c) (Nat.le_refl _))
   clear b a d c
   go_wp2
   exact bodyPost_ret (v:= .agg #[.slice p5 l5.length c5]) (by simp [results,Tryz.results12,go_sem,t0]) rfl ⟨_,_,rfl,f.o,by omega,g.o.mono (by omega),i.o⟩
theorem Tryz.infoFnC:(Tryz.prog.info? 148).map (fun i=>(i.zero,i.size,i.bytes))=some (some (.agg #[.string ⟨#[]⟩,.slice none 0 0,.int .i64 0,.int .i64 0]),4,56):=by kernel_rfl
theorem Tryz.infoIntC:(Tryz.prog.info? 3).map (fun i=>(i.zero,i.size,i.bytes))=some (some (.int .i64 0),1,8):=by kernel_rfl
theorem FnC.snoc [LB] {w:World} {ys:List Value} {m:Nat} (h:FnC w ys m) (hl:ys.length=m*4) (s:Short) (pv:Value) (ps:List Int) (f z:Int) (hp:w.ownsRow 0 3 1 pv ps.length (ps.map (Value.int .i64))) (hp3:ps.length≤3) (hf0:0≤f) (hf3:f≤3):FnC w (ys++[.string s,pv,.int .i64 f,.int .i64 z]) (m+1):=fun i hi=>by
 by_cases hk:i < m
 ·obtain ⟨s',pv',ps',f',z',h1,h2,h3,h4,h5⟩:=h i hk
  exact ⟨s',pv',ps',f',z',by rw [List.getElem?_append_left (by omega)];exact h1,by rw [List.getElem?_append_left (by omega)];exact h2,by rw [List.getElem?_append_left (by omega)];exact h3,by rw [List.getElem?_append_left (by omega)];exact h4,h5⟩
 ·obtain rfl:i=m:=by omega
  refine ⟨s,pv,ps,f,z,?_,?_,?_,?_,hp,hp3,hf0,hf3⟩
  ·rw [List.getElem?_append_right (by omega),hl,show i*4 - i*4=0 from by omega];rfl
  ·rw [List.getElem?_append_right (by omega),hl,show i*4+1 - i*4=1 from by omega];rfl
  ·rw [List.getElem?_append_right (by omega),hl,show i*4+2 - i*4=2 from by omega];rfl
  ·rw [List.getElem?_append_right (by omega),hl,show i*4+3 - i*4=3 from by omega];rfl
theorem Gn.pushFn [LB] {gb rb:Nat} {vb:Value} {n q k:Nat} {w w':World} (h:Gn gb rb vb n q k w) {v v':Value} (hv:w.cell? ⟨gb,2,none⟩=some v) (hg:w.grownBy w' v.ownBlock) {m':Nat} {ys:List Value} (hx:w'.ownsRow (rb+1) 148 4 v' m' ys) (hs:FnC w' ys m') (hm:m'≤1000):Gn gb rb vb n q k (w'.setCell ⟨gb,2,none⟩ v'):=by
 have hl:=h.lt
 have hup:=h.up
 obtain ⟨v0,m0,ys0,f1,f2,f3,f4⟩:=h.fn
 obtain rfl:v0=v:=by rw [f1] at hv;exact Option.some.inj hv
 have own:∀ b,v0.ownBlock=some b→rb+1≤b∧tyAt w b=some 148:=fun b hb=>⟨(f2.lt b hb).1,XV f2 hb⟩
 have kt:∀ t,t≠148→∀ q,q < w.heap.size→tyAt w q=some t→w'.heap[q]?=w.heap[q]?:=fun t ht q hq d=>hg.block q hq (fun e=>by have:=(own q e.symm).2;rw [d] at this;exact ht (Option.some.inj this))
 have eb:=kt _ (by decide) gb hl h.ty
 have d:tyAt w' gb=some 116:=(XX eb).trans h.ty
 have cb:∀ j,j≠2→(w'.setCell ⟨gb,2,none⟩ v').cell? ⟨gb,j,none⟩=w.cell? ⟨gb,j,none⟩:=fun j hj=>(World.cell?_setCell_other _ _ _ _ (fun e=>hj (congrArg Addr.off e).symm)).trans (World.cell?_of_block (a:=⟨gb,j,none⟩) eb)
 have sb:∀ b,b≠gb→(w'.setCell ⟨gb,2,none⟩ v').heap[b]?=w'.heap[b]?:=fun b hb=>Below.heap_setCell _ _ _ _ hb
 have kt2:∀ t,t≠148→t≠116→∀ q,q < w.heap.size→tyAt w q=some t→(w'.setCell ⟨gb,2,none⟩ v').heap[q]?=w.heap[q]?:=fun t h1 h2 q hq hq2=>(sb q (fun e=>by rw [e,h.ty] at hq2;exact h2 (Option.some.inj hq2).symm)).trans (kt t h1 q hq hq2)
 obtain ⟨p,hp,hr⟩:=h.R
 obtain ⟨vn,xs,n1,n2,n3⟩:=h.nm
 obtain ⟨c,hc,h5⟩:=h.ct
 obtain ⟨z,hz,hz1,h6⟩:=h.sz
 exact ⟨⟨p,hp,hr.upto (fun b hb=>(sb b (by omega)).trans (hg.block b (by omega) (fun e=>by have:=(own b e.symm).1;omega)))⟩,hup,by rw [Ky];exact d,(cb 0 (by decide)).trans h.c0,⟨vn,xs,(cb 1 (by decide)).trans n1,YZ n2 (kt2 _ (by decide) (by decide)),n3⟩,⟨v',m',ys,World.cell?_setCell_same _ _ _ ((World.cell?_of_block (a:=⟨gb,2,none⟩) eb).trans f1),Yb hx (by rw [d];decide),hm,hs.keep (fun q' _ hq'=>Below.heap_setCell _ _ _ _ (fun e=>by have e':q'=gb:=e;rw [e',d] at hq';cases hq'))⟩,⟨c,by omega,(cb 3 (by decide)).trans h5⟩,⟨z,by omega,hz1,(cb 4 (by decide)).trans h6⟩,fun j=>by rw [World.frozen?_setCell];exact (World.frozen?_of_block (a:=⟨gb,j,none⟩) eb).trans (h.fr j),h.km⟩
section
variable {P:Program} {ops:Array Oper} {Q:Exit→Act→World→Prop} {md:Region.Mode}
theorem Kq [LB] {l:Array Bool} {i:Nat} (h:i∈Region.ready md ops l):∃ o,ops[i]?=some o∧l[i]?=some false∧∀ e∈o.after,Region.binds md e=true→l[e.on]?=some true:=by
 unfold Region.ready at h
 rw [List.mem_filter,List.mem_range] at h
 obtain ⟨h1,h2⟩:=h
 have ho:ops[i]?=some ops[i]:=Array.getElem?_eq_getElem h1
 rw [ho] at h2
 simp only [Option.map_some,Option.getD_some,Bool.and_eq_true,Bool.not_eq_true',Array.all_eq_true'] at h2
 refine ⟨_,ho,?_,fun e he hb=>?_⟩
 ·have:=h2.1
  rw [Array.getD_eq_getD_getElem?] at this
  cases hl:l[i]? with
  | none=>rw [hl] at this;cases this
  | some b=>rw [hl] at this;simp only [Option.getD_some] at this;rw [this]
 ·have:=h2.2 e he
  rw [hb] at this
  simp only [Bool.not_true,Bool.false_or] at this
  rw [Array.getD_eq_getD_getElem?] at this
  cases hl:l[e.on]? with
  | none=>rw [hl] at this;cases this
  | some b=>rw [hl] at this;simp only [Option.getD_some] at this;rw [this]
theorem ready_memI [LB] {l:Array Bool} {i:Nat} {o:Oper} (ho:ops[i]?=some o) (hl:l[i]?=some false) (hd:∀ e∈o.after,l[e.on]?=some true):i∈Region.ready md ops l:=by
 unfold Region.ready
 rw [List.mem_filter,List.mem_range]
 refine ⟨(Array.getElem?_eq_some_iff.1 ho).1,?_⟩
 rw [ho,Array.getD_eq_getD_getElem?,hl]
 simp only [Option.map_some,Option.getD_some,Bool.not_false,Bool.true_and,Array.all_eq_true']
 intro e he
 rw [Array.getD_eq_getD_getElem?,hd e he]
 simp
theorem wpAny_inv [LB] (Inv:Array Bool→Act→World→Prop)
  (hs:∀ l a w,Inv l a w→∀ i∈Region.ready md ops l,wpOp P ops Q i (fun a' w'=>Inv (l.setIfInBounds i true) a' w') a w)
  (hf:∀ l a w,Inv l a w→Region.ready md ops l=[]→Q .normal a w) :
  ∀ fuel l a w,l.toList.count false≤fuel→Inv l a w→wpAny P md ops Q fuel l a w:=by
 intro fuel
 induction fuel with
 | zero =>
  intro l a w hc hI
  have hr:Region.ready md ops l=[]:=by
   rw [List.eq_nil_iff_forall_not_mem]
   intro i hi
   obtain ⟨o,_,h2,_⟩:=Kq hi
   have:false∈l.toList:=by rw [Array.mem_toList_iff];exact Array.mem_of_getElem? h2
   have:=List.count_pos_iff.2 this
   omega
  exact ⟨hr,hf l a w hI hr⟩
 | succ fuel ih =>
  intro l a w hc hI
  refine ⟨hf l a w hI,fun i hi=>wpOp_mono (fun a' w' h=>ih _ _ _ ?_ h) (hs l a w hI i hi)⟩
  obtain ⟨o,_,h2,_⟩:=Kq hi
  obtain ⟨hlt,h3⟩:=Array.getElem?_eq_some_iff.1 h2
  have hm:false∈l.toList:=by rw [Array.mem_toList_iff];exact Array.mem_of_getElem? h2
  have hp:=List.count_pos_iff.2 hm
  rw [Array.toList_setIfInBounds,List.count_set (by simpa using hlt)]
  simp only [Array.getElem_toList,h3,beq_self_eq_true,if_true,show (true == false)=false from rfl,Bool.false_eq_true,if_false]
  omega
theorem Yk [LB] {i:Nat} {o:Oper} {a:Act} {w:World} {K:Act→World→Prop} (ho:ops[i]?=some o) (h:if Region.wanted o (yielded ops a.tmps)=true then Oper.wp P o a w K Q else K (a.put o.dst undef) w):wpOp P ops Q i K a w:=by
 unfold wpOp
 rw [ho]
 simp only
 split
 ·rename_i hw;rw [if_pos hw] at h;exact .inl h
 ·rename_i hw;rw [if_neg hw] at h;exact h
theorem ready_full [LB] {l:Array Bool} (hr:Region.ready md ops l=[]) (hl:l.size=ops.size) (hd:∀ (i:Nat) (o:Oper),ops[i]?=some o→∀ e∈o.after,e.on < i):∀ i,i < ops.size→l[i]?=some true:=by
 intro i
 induction i using Nat.strongRecOn with
 | ind i ih =>
  intro hi
  have ho:ops[i]?=some ops[i]:=Array.getElem?_eq_getElem hi
  have hb:l[i]?=some l[i]:=Array.getElem?_eq_getElem (by omega)
  cases hc:l[i] with
  | true=>rw [hb,hc]
  | false =>
   exfalso
   have hm:i∈Region.ready md ops l:=ready_memI ho (by rw [hb,hc]) (fun e he=>by
    have h1:=hd i _ ho e he
    exact ih _ h1 (by omega))
   rw [hr] at hm
   cases hm
def Down (md:Region.Mode) (ops:Array Oper) (l:Array Bool):Prop:=∀ (j:Nat) (o:Oper),ops[j]?=some o→l[j]?=some true→∀ e∈o.after,Region.binds md e=true→l[e.on]?=some true
theorem set_keep [LB] {l:Array Bool} {i j:Nat} (h:l[j]?=some true):(l.setIfInBounds i true)[j]?=some true:=by
 rw [Array.getElem?_setIfInBounds]
 split
 ·rename_i e
  subst e
  rw [if_pos (Array.getElem?_eq_some_iff.1 h).1]
 ·exact h
theorem Z7 [LB] {l:Array Bool} {i j:Nat} (h:i≠j):(l.setIfInBounds i true)[j]?=l[j]?:=by rw [Array.getElem?_setIfInBounds,if_neg h]
theorem QJ [LB] {l:Array Bool} {i:Nat} (h:l[i]?=some false):(l.setIfInBounds i true)[i]?=some true:=by rw [Array.getElem?_setIfInBounds,if_pos rfl,if_pos (Array.getElem?_eq_some_iff.1 h).1]
theorem Down.step [LB] {l:Array Bool} {i:Nat} (h:Down md ops l) (hi:i∈Region.ready md ops l):Down md ops (l.setIfInBounds i true):=fun j o ho hl e he hb=>by
 by_cases hj:i=j
 ·subst hj
  obtain ⟨o',ho',_,h3⟩:=Kq hi
  rw [ho] at ho'
  obtain rfl:=Option.some.inj ho'
  exact set_keep (h3 e he hb)
 ·rw [Z7 hj] at hl
  exact set_keep (h j o ho hl e he hb)
theorem Down.all [LB] {l:Array Bool} {m:Nat} (h:Down md ops l) (hc:∀ j,j < m→∃ (j':Nat) (o:Oper),j < j'∧j'≤m∧ops[j']?=some o∧∃ e∈o.after,Region.binds md e=true∧e.on=j) (hm:l[m]?=some true):∀ d j,j+d=m→l[j]?=some true:=by
 intro d
 induction d using Nat.strongRecOn with
 | ind d ih =>
  intro j hj
  rcases Nat.eq_zero_or_pos d with rfl | hd
  ·rw [show j=m by omega];exact hm
  ·obtain ⟨j',o,h1,h2,h3,e,he,hb,rfl⟩:=hc j (by omega)
   exact h j' o h3 (ih (m - j') (by omega) j' (by omega)) e he hb
def depsB (ops:Array Oper):Bool:=(List.range ops.size).all fun i=>((ops[i]?).map fun o=>o.after.all fun e=>decide (e.on < i)).getD true
theorem depsB_at [LB] (h:depsB ops=true):∀ (i:Nat) (o:Oper),ops[i]?=some o→∀ e∈o.after,e.on < i:=fun i o ho e he=>by
 have h1:=List.all_eq_true.1 h i (List.mem_range.2 (Array.getElem?_eq_some_iff.1 ho).1)
 rw [ho] at h1
 simp only [Option.map_some,Option.getD_some,Array.all_eq_true',decide_eq_true_eq] at h1
 exact h1 e he
def upB (md:Region.Mode) (ops:Array Oper) (m:Nat):Bool:=(List.range m).all fun j=>(List.range (m+1)).any fun k=>decide (j < k) && ((ops[k]?).map fun o=>o.after.any fun e=>Region.binds md e && e.on == j).getD false
theorem upB_at [LB] {m:Nat} (h:upB md ops m=true):∀ j,j < m→∃ (j':Nat) (o:Oper),j < j'∧j'≤m∧ops[j']?=some o∧∃ e∈o.after,Region.binds md e=true∧e.on=j:=fun j hj=>by
 have h1:=List.all_eq_true.1 h j (List.mem_range.2 hj)
 obtain ⟨k,hk,h2⟩:=List.any_eq_true.1 h1
 rw [List.mem_range] at hk
 simp only [Bool.and_eq_true,decide_eq_true_eq] at h2
 cases ho:ops[k]? with
 | none=>rw [ho] at h2;exact absurd h2.2 (by simp)
 | some o =>
  rw [ho] at h2
  have h3:=h2.2
  simp only [Option.map_some,Option.getD_some,Array.any_eq_true'] at h3
  obtain ⟨e,he,h4⟩:=h3
  simp only [Bool.and_eq_true,beq_iff_eq] at h4
  exact ⟨k,o,h2.1,by omega,ho,e,he,h4.1,h4.2⟩
def IsOp (ops:Array Oper) (i:Nat) (d:Nat) (op:Op):Prop:=∃ o,ops[i]?=some o∧o.dst=some d∧o.op=op∧o.guard=none
def onB (md:Region.Mode) (ops:Array Oper) (i j:Nat):Bool:=((ops[i]?).map fun o=>o.after.any fun e=>Region.binds md e && e.on == j).getD false
theorem YQ [LB] {i j:Nat} {l:Array Bool} (h:onB md ops i j=true) (hi:i∈Region.ready md ops l):l[j]?=some true:=by
 obtain ⟨o,ho,_,h3⟩:=Kq hi
 unfold onB at h
 rw [ho] at h
 simp only [Option.map_some,Option.getD_some,Array.any_eq_true'] at h
 obtain ⟨e,he,h4⟩:=h
 simp only [Bool.and_eq_true,beq_iff_eq] at h4
 rw [← h4.2]
 exact h3 e he h4.1
theorem Yl [LB] {o:Oper} {a:Act} {w:World} {K:Act→World→Prop} {E:Prop} {v:Value} {w':World} (hg:o.guard=none) (h:(execOp a.eval o).run P w = .ok (.value v) w') (hK:K (a.put o.dst v) w'):if Region.wanted o (yielded ops a.tmps)=true then Oper.wp P o a w K Q else E:=by
 rw [if_pos (by simp [Region.wanted,hg])]
 unfold Oper.wp
 rw [h]
 exact hK
end
theorem eval_same [LB] {a:Act} {t:Nat} {v:Value} (h:t < a.tmps.size):(a.put (some t) v).eval (.tmp t)=v:=by
 simp [Act.put,Act.eval,h]
theorem eval_other [LB] {a:Act} {t t':Nat} {v:Value} (h:t≠t'):(a.put (some t) v).eval (.tmp t')=a.eval (.tmp t'):=by
 simp [Act.put,Act.eval,h]
theorem KA [LB] {w:World} {b:Nat} {o:Obj} (h:w.heap[b]?=some o):b < w.heap.size:=by
 rcases Nat.lt_or_ge b w.heap.size with h1 | h1
 ·exact h1
 ·rw [Array.getElem?_eq_none h1] at h;cases h
theorem row_atS [LB] {w w':World} {base size:Nat} {e:TypeId} {v:Value} {n:Nat} {xs:List Value} (h:w.ownsRow base e size v n xs) (hb:∀ q,v.ownBlock=some q→w'.heap[q]?=w.heap[q]?):w'.ownsRow base e size v n xs:=by
 refine ⟨h.1,?_⟩
 rcases h.2 with h1 | ⟨g,cap,cur,hv,h2,h3,h4⟩
 ·exact .inl h1
 ·exact .inr ⟨g,cap,cur,hv,h2,(hb g (by rw [hv];rfl)).trans h3,h4⟩
theorem Rq.pick_ex [LB] {rb:Nat} {vb:Value} {n q:Nat} {w:World} (h:Rq rb vb n q w) (hq:q≤900000000) (m:Int) (h1:1≤m) (h2:m≤1000000):Calls Tryz.prog 14 #[.pointer (some ⟨rb,0,none⟩),.int .i64 m] w fun e w1=>∃ r,e = .returned r∧∃ z:Nat,(z:Int) < m∧r = .int .i64 (z:Int)∧Rq rb vb n (q+1) w1∧Ty w w1:=(h.pick hq m h1 h2).mono fun _ _ ⟨z,a,b,c⟩=>⟨_,b,z,a,rfl,c⟩
theorem Kf [LB] (l:List Tr.Nd):(X2 l).length=l.length*5:=by
 induction l with
 | nil=>rfl
 | cons d l ih =>
  have e:X2 (d :: l)=X2 [d]++X2 l:=Zr [d] l
  rw [e,List.length_append,ih,List.length_cons]
  show 5+_=_
  omega
theorem ZR [LB] (l:List Tr.Nd) (k:Nat) (hk:k < l.length):X2 l=X2 (l.take k)++ .int .i64 l[k].kind :: .int .i64 l[k].op :: .int .i64 l[k].n :: .string l[k].text :: .int .i64 l[k].kids :: X2 (l.drop (k+1)):=by
 conv=>lhs;rw [← List.take_append_drop k l,List.drop_eq_getElem_cons hk]
 rw [Zr]
 rfl
theorem Jx [LB] (l:List Tr.Nd) (k:Nat) (x:Tr.Nd) (hk:k < l.length):X2 (l.set k x)=X2 (l.take k)++ .int .i64 x.kind :: .int .i64 x.op :: .int .i64 x.n :: .string x.text :: .int .i64 x.kids :: X2 (l.drop (k+1)):=by
 rw [List.set_eq_take_append_cons_drop,if_pos hk,Zr]
 rfl
theorem Qu [LB] (A B:List Value) (a b c d e v:Value) (m i:Nat) (hm:A.length=m):(A++a :: b :: c :: d :: e :: B).set (m+i) v=A++(a :: b :: c :: d :: e :: B).set i v:=by
 rw [List.set_append_right _ _ (by omega),show m+i - A.length=i by omega]
theorem KL [LB] (l:List Tr.Nd) (k:Nat) (hk:k < l.length):(X2 (l.take k)).length=k*5:=by rw [Kf,List.length_take];congr 1;omega
theorem row_text [LB] {W:World} {B g c k:Nat} {l:List Tr.Nd} (t:ByteArray) (hk:k < l.length) (hr:W.ownsRow B 35 5 (.slice (some ⟨g,0,none⟩) l.length c) l.length (X2 l)):(W.setCell ⟨g,k*5+3,none⟩ (.string t)).ownsRow B 35 5 (.slice (some ⟨g,0,none⟩) l.length c) l.length (X2 (l.set k {l[k] with text:=t})):=by
 have t0:=(hr.stored (k*5+3) (.string t)).1
 rw [ZR l k hk,Qu _ _ _ _ _ _ _ _ _ 3 (KL l k hk)] at t0
 rw [Jx l k _ hk]
 exact t0
theorem row_kids [LB] {W:World} {B g c k:Nat} {l:List Tr.Nd} (z:Int) (hk:k < l.length) (hr:W.ownsRow B 35 5 (.slice (some ⟨g,0,none⟩) l.length c) l.length (X2 l)):(W.setCell ⟨g,k*5+4,none⟩ (.int .i64 z)).ownsRow B 35 5 (.slice (some ⟨g,0,none⟩) l.length c) l.length (X2 (l.set k {l[k] with kids:=z})):=by
 have t0:=(hr.stored (k*5+4) (.int .i64 z)).1
 rw [ZR l k hk,Qu _ _ _ _ _ _ _ _ _ 4 (KL l k hk)] at t0
 rw [Jx l k _ hk]
 exact t0
theorem row_set5 [LB] {W:World} {B g c k:Nat} {l:List Tr.Nd} (x:Tr.Nd) (hk:k < l.length) (hr:W.ownsRow B 35 5 (.slice (some ⟨g,0,none⟩) l.length c) l.length (X2 l)) :
  (((((W.setCell ⟨g,k*5,none⟩ (.int .i64 x.kind)).setCell ⟨g,k*5+1,none⟩ (.int .i64 x.op)).setCell ⟨g,k*5+2,none⟩ (.int .i64 x.n)).setCell ⟨g,k*5+3,none⟩ (.string x.text)).setCell ⟨g,k*5+4,none⟩ (.int .i64 x.kids)).ownsRow B 35 5 (.slice (some ⟨g,0,none⟩) l.length c) l.length (X2 (l.set k x)):=by
 have hl:=KL l k hk
 rw [ZR l k hk] at hr
 have t0:=(hr.stored (k*5) (.int .i64 x.kind)).1
 have e0:=Qu (X2 (l.take k)) (X2 (l.drop (k+1))) (.int .i64 l[k].kind) (.int .i64 l[k].op) (.int .i64 l[k].n) (.string l[k].text) (.int .i64 l[k].kids) (.int .i64 x.kind) (k*5) 0 hl
 change List.set _ (k*5) _=_ at e0
 rw [e0] at t0
 have t1:=(t0.stored (k*5+1) (.int .i64 x.op)).1
 simp only [List.set_cons_zero] at t1
 rw [Qu _ _ _ _ _ _ _ _ _ 1 hl] at t1
 have t2:=(t1.stored (k*5+2) (.int .i64 x.n)).1
 simp only [List.set_cons_zero,List.set_cons_succ] at t2
 rw [Qu _ _ _ _ _ _ _ _ _ 2 hl] at t2
 have t3:=(t2.stored (k*5+3) (.string x.text)).1
 simp only [List.set_cons_zero,List.set_cons_succ] at t3
 rw [Qu _ _ _ _ _ _ _ _ _ 3 hl] at t3
 have t4:=(t3.stored (k*5+4) (.int .i64 x.kids)).1
 simp only [List.set_cons_zero,List.set_cons_succ] at t4
 rw [Qu _ _ _ _ _ _ _ _ _ 4 hl] at t4
 rw [Jx l k x hk]
 exact t4
theorem cells_drop [LB] {W:World} {B g c k:Nat} {l:List Tr.Nd} (hr:W.ownsRow B 35 5 (.slice (some ⟨g,0,none⟩) l.length c) l.length (X2 l)) (hk:k≤l.length) (j:Nat) (u:Value) (hu:(X2 (l.drop k))[j]?=some u):W.cell? ((⟨g,k*5,none⟩:Addr).add j)=some u:=by
 have h1:=World.ownsRow.cells hr rfl (k*5+j) u (by
  have e:X2 l=X2 (l.take k)++X2 (l.drop k):=by rw [← Zr,List.take_append_drop]
  have hl:(X2 (l.take k)).length=k*5:=by rw [Kf,List.length_take];congr 1;omega
  rw [e,List.getElem?_append_right (by omega),show k*5+j - (X2 (l.take k)).length=j by omega]
  exact hu)
 rw [Xl,Nat.zero_add] at h1
 rw [Xl]
 exact h1
theorem sh_set [LB] {l:List Tr.Nd} {k:Nat} {x:Tr.Nd} (h:Sh l) (hx:x.text.size≤1000000):Sh (l.set k x):=fun y hy=>by
 rcases List.mem_or_eq_of_mem_set hy with h1 | rfl
 ·exact h y h1
 ·exact hx
section
variable (rb:Nat) (vb:Value) (n:Nat) (W0:World) (v:Value) (l0:List Tr.Nd) (tb rx ob:Nat)
structure SP [LB] (q:Nat) (ov:Value) (l:List Tr.Nd) (w:World):Prop where
 r:Rq rb vb n q w
 tf:Tf W0 w
 src:NR w v l0
 vlo:∀ b,v.ownBlock=some b→b < W0.heap.size
 tbx:w.heap[tb]?=some (.cells #[v] 25)
 rbx:w.heap[rx]?=some (.cells #[.slice none 0 0] 25)
 obx:w.heap[ob]?=some (.cells #[ov] 25)
 o:w.ownsRow W0.heap.size 35 5 ov l.length (X2 l)
 sh:Sh l
 lo:rb < W0.heap.size∧W0.heap.size≤rx∧W0.heap.size≤ob∧rx≠ob∧tb≠ob∧W0.heap.size≤tb
end
section
variable {rb:Nat} {vb:Value} {n:Nat} {W0:World} {v:Value} {l0:List Tr.Nd} {tb rx ob:Nat} {q:Nat} {ov:Value} {l:List Tr.Nd} {w w':World}
theorem SP.ty [LB] (h:SP rb vb n W0 v l0 tb rx ob q ov l w) (ht:Ty w w') {q':Nat} (hr:Rq rb vb n q' w'):SP rb vb n W0 v l0 tb rx ob q' ov l w' :=
 ⟨hr,h.tf.trans (Ty.tf ht),h.src.ty ht,h.vlo,Ty.same ht h.tbx Xv,Ty.same ht h.rbx Xv,Ty.same ht h.obx Xv,XO h.o ht K9,h.sh,h.lo⟩
theorem SP.below [LB] (h:SP rb vb n W0 v l0 tb rx ob q ov l w) (hb:Below w.heap.size w w'):SP rb vb n W0 v l0 tb rx ob q ov l w':=h.ty (.of hb) (h.r.below hb)
theorem SP.mono [LB] (h:SP rb vb n W0 v l0 tb rx ob q ov l w) {q':Nat} (hq:q≤q'):SP rb vb n W0 v l0 tb rx ob q' ov l w:=h.ty (.refl _) (h.r.mono hq)
theorem SP.cells [LB] (h:SP rb vb n W0 v l0 tb rx ob q ov l w):w.cell? ⟨tb,0,none⟩=some v∧w.cell? ⟨rx,0,none⟩=some (.slice none 0 0)∧w.cell? ⟨ob,0,none⟩=some ov∧w.frozen? ⟨rx,0,none⟩=false∧w.frozen? ⟨ob,0,none⟩=false :=
 ⟨(Xo h.tbx).1,(Xo h.rbx).1,(Xo h.obx).1,(Xo h.rbx).2,(Xo h.obx).2⟩
theorem SP.rty [LB] (h:SP rb vb n W0 v l0 tb rx ob q ov l w):tyAt w rx=some 25:=by unfold tyAt;rw [h.rbx];rfl
theorem SP.oty [LB] (h:SP rb vb n W0 v l0 tb rx ob q ov l w):tyAt w ob=some 25:=by unfold tyAt;rw [h.obx];rfl
theorem SP.ret [LB] (h:SP rb vb n W0 v l0 tb rx ob q ov l w) {v':Value} {l':List Tr.Nd} (hn:NR w v' l'):NR (w.setCell ⟨rx,0,none⟩ v') v' l'∧Rq rb vb n q (w.setCell ⟨rx,0,none⟩ v')∧Tf W0 (w.setCell ⟨rx,0,none⟩ v'):=by
 have lo:=h.lo
 exact ⟨hn.setT (by rw [h.rty];decide),h.r.set (by omega),Zk h.tf lo.2.1⟩
theorem SP.rows [LB] (h:SP rb vb n W0 v l0 tb rx ob q ov l w) {l':List Tr.Nd} (hs:w'.os=w.os∧w'.tape=w.tape∧w'.output=w.output∧w.heap.size≤w'.heap.size) (hb:∀ b,some b≠ov.ownBlock→w'.heap[b]?=w.heap[b]?) (hr:w'.ownsRow W0.heap.size 35 5 ov l'.length (X2 l')) (hsh:Sh l'):SP rb vb n W0 v l0 tb rx ob q ov l' w':=by
 have lo:=h.lo
 have own:∀ b,ov.ownBlock=some b→W0.heap.size≤b∧tyAt w b=some 35:=fun b e=>⟨(h.o.lt b e).1,XV h.o e⟩
 have nt:∀ b t,tyAt w b=some t→t≠35→w'.heap[b]?=w.heap[b]?:=fun b t ht hne=>hb b (fun e=>by have:=(own b e.symm).2;rw [ht] at this;exact hne (Option.some.inj this))
 have lw:∀ b,b < W0.heap.size→w'.heap[b]?=w.heap[b]?:=fun b hlt=>hb b (fun e=>by have:=(own b e.symm).1;omega)
 refine ⟨?_,?_,?_,h.vlo,(nt tb _ (by unfold tyAt;rw [h.tbx];rfl) (by decide)).trans h.tbx,(nt rx _ h.rty (by decide)).trans h.rbx,(nt ob _ h.oty (by decide)).trans h.obx,hr,hsh,h.lo⟩
 ·obtain ⟨p,hp,hr⟩:=h.r
  exact ⟨p,hp,hr.upto (fun b hb=>lw b (by omega))⟩
 ·exact ⟨hs.1.trans h.tf.os,hs.2.1.trans h.tf.tape,hs.2.2.1.trans h.tf.output,Nat.le_trans h.tf.size hs.2.2.2,fun b h1 h2=>(lw b h1).trans (h.tf.block b h1 h2),fun hn=>absurd (.inr rfl) hn,fun b h1 h2=>(lw b h1).trans (h.tf.old b h1 h2)⟩
 ·exact ⟨row_atS h.src.1 (fun b e=>lw b (h.vlo b e)),h.src.2⟩
end
section
variable {rb:Nat} {vb:Value} {n:Nat} {W0:World} {v:Value} {l0:List Tr.Nd} {tb rx ob:Nat} {q:Nat} {ov:Value} {l:List Tr.Nd} {w:World}
theorem SP.setOut [LB] (h:SP rb vb n W0 v l0 tb rx ob q ov l w) {ov':Value} {l':List Tr.Nd} (hr:w.ownsRow W0.heap.size 35 5 ov' l'.length (X2 l')) (hsh:Sh l'):SP rb vb n W0 v l0 tb rx ob q ov' l' (w.setCell ⟨ob,0,none⟩ ov'):=by
 have lo:=h.lo
 have sb:∀ b,b≠ob→(w.setCell ⟨ob,0,none⟩ ov').heap[b]?=w.heap[b]?:=fun b hb=>Below.heap_setCell _ _ _ _ hb
 refine ⟨h.r.set (by omega),Zk h.tf lo.2.2.1,h.src.setT (by rw [h.oty];decide),h.vlo,(sb tb lo.2.2.2.2.1).trans h.tbx,(sb rx lo.2.2.2.1).trans h.rbx,?_,Yb hr (by rw [h.oty];decide),hsh,h.lo⟩
 rw [KN h.obx];rfl
end
section
variable (W0:World) (xb:Nat) (ov:Value)
structure XN (x:Tr.Nd) (w:World):Prop where
 box:w.heap[xb]?=some (.cells #[.int .i64 x.kind,.int .i64 x.op,.int .i64 x.n,.string x.text,.int .i64 x.kids] 35)
 sh:x.text.size≤1000000
 ne:ov.ownBlock≠some xb
 lo:W0.heap.size≤xb
end
section
variable {rb:Nat} {vb:Value} {n:Nat} {W0:World} {v:Value} {l0:List Tr.Nd} {tb rx ob xb:Nat} {q:Nat} {ov:Value} {l:List Tr.Nd} {w w':World} {x:Tr.Nd}
theorem XN.ty [LB] (h:XN W0 xb ov x w) (ht:Ty w w'):XN W0 xb ov x w':=⟨Ty.same ht h.box K9,h.sh,h.ne,h.lo⟩
theorem XN.below [LB] (h:XN W0 xb ov x w) (hb:Below w.heap.size w w'):XN W0 xb ov x w':=h.ty (.of hb)
theorem XN.cells [LB] (h:XN W0 xb ov x w):w.cell? ⟨xb,0,none⟩=some (.int .i64 x.kind)∧w.cell? ⟨xb,1,none⟩=some (.int .i64 x.op)∧w.cell? ⟨xb,2,none⟩=some (.int .i64 x.n)∧w.cell? ⟨xb,3,none⟩=some (.string x.text)∧w.cell? ⟨xb,4,none⟩=some (.int .i64 x.kids)∧∀ j,w.frozen? ⟨xb,j,none⟩=false:=by
 refine ⟨?_,?_,?_,?_,?_,fun j=>?_⟩
 ·rw [World.cell?,h.box];rfl
 ·rw [World.cell?,h.box];rfl
 ·rw [World.cell?,h.box];rfl
 ·rw [World.cell?,h.box];rfl
 ·rw [World.cell?,h.box];rfl
 ·rw [World.frozen?,h.box];simp
theorem XN.set [LB] (h:XN W0 xb ov x w) (o:Nat) (u:Value) (x':Tr.Nd) (hx:(#[.int .i64 x.kind,.int .i64 x.op,.int .i64 x.n,.string x.text,.int .i64 x.kids]:Array Value).setIfInBounds o u=#[.int .i64 x'.kind,.int .i64 x'.op,.int .i64 x'.n,.string x'.text,.int .i64 x'.kids]) (hs:x'.text.size≤1000000):XN W0 xb ov x' (w.setCell ⟨xb,o,none⟩ u) :=
 ⟨by rw [KN h.box,hx],hs,h.ne,h.lo⟩
theorem SP.setX [LB] (h:SP rb vb n W0 v l0 tb rx ob q ov l w) (hx:XN W0 xb ov x w) (o:Nat) (u:Value):SP rb vb n W0 v l0 tb rx ob q ov l (w.setCell ⟨xb,o,none⟩ u):=by
 have lo:=h.lo
 have xl:=hx.lo
 have sb:∀ b,b≠xb→(w.setCell ⟨xb,o,none⟩ u).heap[b]?=w.heap[b]?:=fun b hb=>Below.heap_setCell _ _ _ _ hb
 have nt:∀ b,tyAt w b=some 25→b≠xb:=fun b ht e=>by
  have:tyAt w xb=some 35:=by unfold tyAt;rw [hx.box];rfl
  rw [← e,ht] at this
  cases this
 refine ⟨?_,Zk h.tf xl,⟨row_atS h.src.1 (fun b e=>sb b (by have:=h.vlo b e;omega)),h.src.2⟩,h.vlo,(sb tb (nt tb (by unfold tyAt;rw [h.tbx];rfl))).trans h.tbx,(sb rx (nt rx h.rty)).trans h.rbx,(sb ob (nt ob h.oty)).trans h.obx,row_atS h.o (fun b e=>sb b (fun e'=>hx.ne (by rw [e,e']))),h.sh,h.lo⟩
 exact h.r.set (by omega)
end
end Go.Proofs.YtimbaebigjjkaaaGreatDoor
