/- Cv. -/
import Derived.Test.YtimbaebigjjkaaaGreatDoorP21
namespace Go.Proofs.YtimbaebigjjkaaaGreatDoor
open Go.RowKit
def Fm (gb M:Nat) (w:World):Prop:=∃ p m c,m≤M∧w.cell? ⟨gb,2,none⟩=some (.slice p m c)
theorem Fm.ty [LB] {gb M:Nat} {w w':World} (h:Fm gb M w) (ht:tyAt w gb=some 116) (hl:gb < w.heap.size) (hb:Ty w w'):Fm gb M w':=by
 obtain ⟨p,m,c,hm,hc⟩:=h
 exact ⟨p,m,c,hm,(hb.two (by unfold Mine;simp) gb hl ht).2.trans hc⟩
theorem Fm.pf [LB] {gb M B:Nat} {w w':World} (h:Fm gb M w) (ht:tyAt w gb=some 116) (hl:gb < w.heap.size) (hb:Pf B w w'):Fm gb M w':=by
 obtain ⟨p,m,c,hm,hc⟩:=h
 exact ⟨p,m,c,hm,(World.cell?_of_block (a:=⟨gb,2,none⟩) (hb.block gb hl (.inr (by rw [ht];decide)))).trans hc⟩
theorem Fm.mono [LB] {gb M M':Nat} {w:World} (h:Fm gb M w) (hm:M≤M'):Fm gb M' w:=by
 obtain ⟨p,m,c,h1,hc⟩:=h
 exact ⟨p,m,c,by omega,hc⟩
theorem Zk [LB] {M:Option TypeId→Prop} {w W:World} {b o:Nat} {v:Value} (h:TyM M w W) (hb:w.heap.size≤b):TyM M w (W.setCell ⟨b,o,none⟩ v):=by
 have k:=(Below.refl 0 W).setCell (p:=⟨b,o,none⟩) (Nat.zero_le _) v
 have e:∀ q,q < w.heap.size→(W.setCell ⟨b,o,none⟩ v).heap[q]?=W.heap[q]?:=fun q hq=>Below.heap_setCell _ _ _ _ (show q≠b by omega)
 exact ⟨k.os.trans h.os,k.tape.trans h.tape,k.output.trans h.output,Nat.le_trans h.size k.size,fun q h1 h2=>(e q h1).trans (h.block q h1 h2),fun hn q h1 h2=>by
  obtain ⟨x1,x2⟩:=h.two hn q h1 h2
  exact ⟨(XX (e q h1)).trans x1,(World.cell?_of_block (a:=⟨q,2,none⟩) (e q h1)).trans x2⟩,fun q h1 h2=>(e q h1).trans (h.old q h1 h2)⟩
theorem gn_set [LB] {gb rb n q k b o:Nat} {vb v x:Value} {w:World} (h:Gn gb rb vb n q k w) (hb:rb < b) (hx:w.heap[b]?=some (.cells #[x] 25)):Gn gb rb vb n q k (w.setCell ⟨b,o,none⟩ v):=by
 have ht:tyAt w b=some 25:=by unfold tyAt;rw [hx];rfl
 have e:∀ c,c≠b→(w.setCell ⟨b,o,none⟩ v).heap[c]?=w.heap[c]?:=fun c hc=>Below.heap_setCell _ _ _ _ hc
 have kt:∀ t,t≠25→∀ c,c < w.heap.size→tyAt w c=some t→(w.setCell ⟨b,o,none⟩ v).heap[c]?=w.heap[c]?:=fun t h1 c _ h2=>e c (fun e'=>by rw [e',ht] at h2;exact h1 (Option.some.inj h2).symm)
 have eb:=kt _ (by decide) gb h.lt h.ty
 have cb:∀ j,(w.setCell ⟨b,o,none⟩ v).cell? ⟨gb,j,none⟩=w.cell? ⟨gb,j,none⟩:=fun j=>World.cell?_of_block (a:=⟨gb,j,none⟩) eb
 have hup:=h.up
 obtain ⟨p,hp,hr⟩:=h.R
 obtain ⟨v',xs,n1,n2,n3⟩:=h.nm
 obtain ⟨vf,m,ys,f1,f2,f3,f4⟩:=h.fn
 obtain ⟨c,hc,h5⟩:=h.ct
 obtain ⟨z,hz,hz1,h6⟩:=h.sz
 exact ⟨⟨p,hp,hr.upto (fun c hc=>e c (by omega))⟩,hup,(XX eb).trans h.ty,(cb 0).trans h.c0,⟨v',xs,(cb 1).trans n1,YZ n2 (kt _ (by decide)),n3⟩,⟨vf,m,ys,(cb 2).trans f1,YZ f2 (kt _ (by decide)),f3,f4.keep (kt _ (by decide))⟩,⟨c,hc,(cb 3).trans h5⟩,⟨z,hz,hz1,(cb 4).trans h6⟩,fun j=>(World.frozen?_of_block (a:=⟨gb,j,none⟩) eb).trans (h.fr j),h.km⟩
theorem Tf.same [LB] {w w':World} (h:Tf w w') {b:Nat} {cs:Array Value} {t:TypeId} (hb:w.heap[b]?=some (.cells cs t)) (ht:¬ MineF (some t)):w'.heap[b]?=some (.cells cs t):=by
 have hl:b < w.heap.size:=by
  rcases Nat.lt_or_ge b w.heap.size with h | h
  ·exact h
  ·rw [Array.getElem?_eq_none h] at hb;cases hb
 exact (h.block b hl (by unfold tyAt;rw [hb];exact ht)).trans hb
theorem ZO [LB]:¬ MineF (some 25):=by unfold MineF Mine;simp
variable (gb rb:Nat) (vb:Value) (n:Nat)
def DefAt [LB]:Prop:=∀ (q k M:Nat) (s:Short) (w:World),Gn gb rb vb n q k w→Fm gb M w→M≤500→q+9000≤700000000→k+20≤900→Calls Tryz.prog 93 #[.pointer (some ⟨gb,0,none⟩),.string s,.int .i64 3] w fun e w'=>∃ v l,e = .returned v∧NR w' v l∧0 < l.length∧l.length≤9000∧Gn gb rb vb n (q+9000) k w'∧Tf w w'∧Fm gb (M+2) w'
set_option maxRecDepth 100000 in
set_option maxHeartbeats 16000000 in
theorem file_any [LB] (HE3:EAt gb rb vb n 3 6860) (HE4:EAt gb rb vb n 4 34360) (HDF:DefAt gb rb vb n) (q lb N:Nat) (w:World) (h:Gn gb rb vb n q 0 w) (hf:Fm gb 0 w) (hN:N≤6) (hq:q≤100000000):Calls Tryz.prog 65 #[.pointer (some ⟨gb,0,none⟩),.slice (some ⟨lb,0,none⟩) 0 0,.int .i64 (N:Int)] w fun e w'=>∃ v l k,e = .returned (.agg #[v])∧NR w' v l∧0 < l.length∧l.length≤250000∧Gn gb rb vb n (q+250000) k w'∧Tf w w':=by
 obtain ⟨iP,hP,h6,h5,h4⟩:=info_parts Tryz.infoNdsC
 obtain ⟨iN,z2,z4,z3,z1⟩:=info_parts Tryz.infoSeen
 have hup:=h.up
 have h7:rb < w.heap.size:=Nat.lt_trans h.up h.lt
 have b1:Below w.heap.size w (w.alloc (.cells #[.slice none 0 0] 25)):=bA _
 have HG0:=X1 (h.below b1)
 have HF0:=X1 (hf.ty h.ty h.lt (.of b1))
 have HT0:Hid (Tf w (w.alloc (.cells #[.slice none 0 0] 25))):=X1 (.of b1)
 have HX0:Hid ((w.alloc (.cells #[.slice none 0 0] 25)).heap[w.heap.size]?=some (.cells #[.slice none 0 0] 25)):=X1 (Xi w _)
 have HP0:=X1 (World.ownsRow_lit (base:=w.heap.size) (e:=23) (size:=1) (w.alloc (.cells #[.slice none 0 0] 25)) #[] 0 b1.size (Nat.zero_le _) rfl)
 have HE3:=X1 HE3
 have HE4:=X1 HE4
 have HDF:=X1 HDF
 have HB1:=X1 b1
 clear h hf b1
 rw [World.size_alloc] at HP0
 go_enter Tryz.func65,Tryz.ntmps65
 go_wp2_with (at_builtin;refine wpList_append_own_at _ rfl _ _ 106 rfl w.heap.size 23 iP _ 1 24 Tryz.underlying106 hP h6 h5 h4 rfl (by decide) _ 0 [] rfl HP0.o ⟨lb,0,none⟩ 0 0 [] rfl rfl (by intro j u hu;simp at hu) (by simp) (by unfold maxLen;omega) (by omega) (by simp;omega) ?_)
 intro v1 w1 r1 r2 r3 r4
 have B1:Below (w.alloc (.cells #[.slice none 0 0] 25)).heap.size (w.alloc (.cells #[.slice none 0 0] 25)) w1:=(bA (.cells #[] 23)).grown r2 (by simp) (fun q e=>by cases e;simp)
 obtain ⟨sp1,sc1,hs1⟩:=Xc r1
 subst hs1
 have HG1:=X1 (HG0.o.below B1)
 have HF1:=X1 (HF0.o.ty HG0.o.ty HG0.o.lt (.of B1))
 have HT1:=X1 (HT0.o.trans (.of B1))
 have HX1:=X1 (TyM.same HX0.o B1)
 have HP1:Hid (PW w.heap.size w1 (.slice sp1 0 sc1) []):=X1 ⟨[],r1,fun _ hi=>absurd hi (Nat.not_lt_zero _)⟩
 clear r1 r2 r3 r4 B1 HB1 HP0 HG0 HF0 HT0 HX0
 go_wp2_with fail
 go_loopw [7,8,9,10] (fun sv tv _ _ wr=>∃ (i k:Nat) (ls:List (List Tr.Nd)),i≤N∧tv = .int .i64 (i:Int)∧k≤i∧ls.length≤i∧ls.flatten.length≤i*40000∧PW w.heap.size wr sv ls∧Gn gb rb vb n (q+i*40000) k wr∧Tf w wr∧Fm gb (2 * i) wr∧wr.heap[w.heap.size]?=some (.cells #[.slice none 0 0] 25)) (fun _ tv _ _ _=>N - (intOf tv).toNat)
 case atStart=>exact ⟨0,0,[],Nat.zero_le _,rfl,Nat.le_refl _,Nat.le_refl _,Nat.le_refl _,HP1.o,HG1.o,HT1.o,HF1.o,HX1.o⟩
 case round =>
  obtain ⟨i,k,ls,hi,rfl,hki,hle,hfl,hPW,hG,hT,hF,hX⟩:=hrel
  have HPr:=X1 hPW
  have HGr:=X1 hG
  have HTr:=X1 hT
  have HFr:=X1 hF
  have HXr:=X1 hX
  have c0:=hG.c0
  obtain ⟨vs0,pv0,_⟩:=hPW
  obtain ⟨pp0,pc0,hp0⟩:=Xc pv0
  subst hp0
  clear pv0 hG hT hF hX
  by_cases hlt:(i:Int) < (N:Int)
  ·go_wp2_with fail
   refine (Gn.pick HGr.o (by omega) 8 (by omega) (by omega)).mono ?_
   rintro e61 w61 ⟨h8,hz61,rfl,hg61,ht61⟩
   have k2:=X1 ht61
   have e4:=X1 (HPr.o.ty k2.o)
   have e5:=X1 (HTr.o.trans (Ty.tf k2.o))
   have e7:=X1 (Ty.same k2.o HXr.o Xv)
   have d8:=X1 (HFr.o.ty HGr.o.ty HGr.o.lt k2.o)
   have f:=X1 hg61
   have c0_61:=f.o.c0
   clear hg61 ht61
   by_cases hy0:h8=0
   ·subst hy0
    have h9:=X1 (fun w0=>ZU i w0 (by omega))
    have hdl:=Zi i
    generalize YB i=dc at *
    have n7:(⟨dc.toArray⟩:ByteArray).size≤1000:=by show dc.toArray.size≤_;simp;omega
    go_wp2_with fail
    refine (h9.o _).mono ?_
    rintro e62 w62 ⟨rfl,b62⟩
    have k3:=X1 (TyM.of (M:=Mine) b62)
    have HP62:=X1 (e4.o.ty k3.o)
    have HT62:=X1 (e5.o.trans (Ty.tf k3.o))
    have HX62:=X1 (Ty.same k3.o e7.o Xv)
    have HF62:=X1 (d8.o.ty f.o.ty f.o.lt k3.o)
    have HG62:=X1 (f.o.below b62)
    have c0_62:=HG62.o.c0
    clear b62
    go_wp2_with fail
    obtain ⟨sf,hsf⟩:∃ sf:Short,sf.val=(⟨#[102]⟩:ByteArray)++⟨dc.toArray⟩:=⟨⟨(⟨#[102]⟩:ByteArray)++⟨dc.toArray⟩,(by rw [ByteArray.size_append];show 1+_≤_;omega)⟩,rfl⟩
    rw [← hsf]
    refine (HDF.o _ _ _ sf _ HG62.o HF62.o (by omega) (by omega) (by omega)).mono ?_
    rintro e63 w63 ⟨v63,l63,rfl,v9,pn63,mn63,hg63,ht63,hf63⟩
    have s1:=X1 ht63
    have HP63:=X1 (HP62.o.tf s1.o)
    have HT63:=X1 (HT62.o.trans s1.o)
    have HX63:=X1 (Tf.same s1.o HX62.o ZO)
    have HF63:=X1 hf63
    have i1:=X1 hg63
    have c0_63:=i1.o.c0
    clear hg63 ht63 hf63
    obtain ⟨gq63,cq63,hv63⟩:=v9.form pn63
    subst hv63
    have HNd63:=X1 v9
    clear v9
    obtain ⟨vs64,pv64,pw64⟩:=HP63.o
    have HV64:=X1 pv64
    have HW64:=X1 pw64
    clear pv64 pw64
    have hz64:=HT63.o.size
    go_wp2_with (at_builtin;refine wpList_append_own_at _ rfl _ _ 106 rfl w.heap.size 23 iP _ 1 24 Tryz.underlying106 hP h6 h5 h4 rfl (by decide) _ ls.length vs64 rfl (HV64.o.alloc _) ⟨w63.heap.size,0,none⟩ 1 1 [.slice (some ⟨gq63,0,none⟩) l63.length cq63] rfl rfl (XK _ [_] _ _ rfl) (by simp [Value.oneCell']) (by unfold maxLen;omega) (by omega) (by simp;omega) ?_)
    intro v64 w64 x6 rb64 rc64 rd64
    obtain ⟨hp64,W⟩:=pushed HV64.o HW64.o HNd63.o pn63 x6 rb64
    obtain ⟨sp64,sc64,hs64⟩:=Xc x6
    subst hs64
    have HP64:=X1 hp64
    have HG64:=X1 (W.gn i1.o h7)
    have HT64:=X1 (W.tyM HT63.o (Nat.le_refl _))
    have HX64:=X1 (W.same HX63.o (by decide))
    have HF64:=X1 (HF63.o.pf i1.o.ty i1.o.lt W)
    clear hp64 W x6 rb64 rc64 rd64
    go_wp2
    go_roundw
    case rel=>exact ⟨i+1,k,_,by omega,by go_num,by omega,by rw [List.length_append];simp only [List.length_cons,List.length_nil];omega,by rw [List.flatten_append,List.length_append,fl1];omega,HP64.o,HG64.o.mono (by omega),HT64.o,HF64.o.mono (by omega),HX64.o⟩
    case measure=>simp [intOf];omega
   by_cases hy1:h8=1
   ·subst hy1
    have h9:=X1 (fun w0=>ZU i w0 (by omega))
    have hdl:=Zi i
    generalize YB i=dc at *
    have n7:(⟨dc.toArray⟩:ByteArray).size≤1000:=by show dc.toArray.size≤_;simp;omega
    go_wp2_with fail
    refine (h9.o _).mono ?_
    rintro e65 w65 ⟨rfl,b65⟩
    have k4:=X1 (TyM.of (M:=Mine) b65)
    have HP65:=X1 (e4.o.ty k4.o)
    have HT65:=X1 (e5.o.trans (Ty.tf k4.o))
    have HX65:=X1 (Ty.same k4.o e7.o Xv)
    have HF65:=X1 (d8.o.ty f.o.ty f.o.lt k4.o)
    have HG65:=X1 (f.o.below b65)
    have c0_65:=HG65.o.c0
    clear b65
    go_wp2_with fail
    obtain ⟨sf,hsf⟩:∃ sf:Short,sf.val=(⟨#[102]⟩:ByteArray)++⟨dc.toArray⟩:=⟨⟨(⟨#[102]⟩:ByteArray)++⟨dc.toArray⟩,(by rw [ByteArray.size_append];show 1+_≤_;omega)⟩,rfl⟩
    rw [← hsf]
    refine (HDF.o _ _ _ sf _ HG65.o HF65.o (by omega) (by omega) (by omega)).mono ?_
    rintro e66 w66 ⟨v66,l66,rfl,w2,pn66,mn66,hg66,ht66,hf66⟩
    have s2:=X1 ht66
    have HP66:=X1 (HP65.o.tf s2.o)
    have HT66:=X1 (HT65.o.trans s2.o)
    have HX66:=X1 (Tf.same s2.o HX65.o ZO)
    have HF66:=X1 hf66
    have i2:=X1 hg66
    have c0_66:=i2.o.c0
    clear hg66 ht66 hf66
    obtain ⟨gq66,cq66,hv66⟩:=w2.form pn66
    subst hv66
    have HNd66:=X1 w2
    clear w2
    obtain ⟨vs67,pv67,pw67⟩:=HP66.o
    have HV67:=X1 pv67
    have HW67:=X1 pw67
    clear pv67 pw67
    have hz67:=HT66.o.size
    go_wp2_with (at_builtin;refine wpList_append_own_at _ rfl _ _ 106 rfl w.heap.size 23 iP _ 1 24 Tryz.underlying106 hP h6 h5 h4 rfl (by decide) _ ls.length vs67 rfl (HV67.o.alloc _) ⟨w66.heap.size,0,none⟩ 1 1 [.slice (some ⟨gq66,0,none⟩) l66.length cq66] rfl rfl (XK _ [_] _ _ rfl) (by simp [Value.oneCell']) (by unfold maxLen;omega) (by omega) (by simp;omega) ?_)
    intro v67 w67 x7 rb67 rc67 rd67
    obtain ⟨hp67,X⟩:=pushed HV67.o HW67.o HNd66.o pn66 x7 rb67
    obtain ⟨sp67,sc67,hs67⟩:=Xc x7
    subst hs67
    have HP67:=X1 hp67
    have HG67:=X1 (X.gn i2.o h7)
    have HT67:=X1 (X.tyM HT66.o (Nat.le_refl _))
    have HX67:=X1 (X.same HX66.o (by decide))
    have HF67:=X1 (HF66.o.pf i2.o.ty i2.o.lt X)
    clear hp67 X x7 rb67 rc67 rd67
    go_wp2
    go_roundw
    case rel=>exact ⟨i+1,k,_,by omega,by go_num,by omega,by rw [List.length_append];simp only [List.length_cons,List.length_nil];omega,by rw [List.flatten_append,List.length_append,fl1];omega,HP67.o,HG67.o.mono (by omega),HT67.o,HF67.o.mono (by omega),HX67.o⟩
    case measure=>simp [intOf];omega
   by_cases hy2:h8=2
   ·subst hy2
    have h9:=X1 (fun w0=>ZU i w0 (by omega))
    have hdl:=Zi i
    generalize YB i=dc at *
    have n7:(⟨dc.toArray⟩:ByteArray).size≤1000:=by show dc.toArray.size≤_;simp;omega
    go_wp2_with fail
    refine (h9.o _).mono ?_
    rintro e68 w68 ⟨rfl,b68⟩
    have k5:=X1 (TyM.of (M:=Mine) b68)
    have HP68:=X1 (e4.o.ty k5.o)
    have HT68:=X1 (e5.o.trans (Ty.tf k5.o))
    have HX68:=X1 (Ty.same k5.o e7.o Xv)
    have HF68:=X1 (d8.o.ty f.o.ty f.o.lt k5.o)
    have i3:=X1 (f.o.below b68)
    have c0_68:=i3.o.c0
    clear b68
    have hsz3:((⟨#[115]⟩:ByteArray)++⟨dc.toArray⟩).size≤2000:=by rw [ByteArray.size_append];show 1+_≤_;omega
    generalize hst:(⟨#[115]⟩:ByteArray)++⟨dc.toArray⟩=st at *
    go_wp2_with fail
    try rw [hst]
    refine (Gn.pick i3.o (by omega) 8 (by omega) (by omega)).mono ?_
    rintro e69 w69 ⟨z69,hz69,rfl,hg69,ht69⟩
    have k6:=X1 ht69
    have HP69:=X1 (HP68.o.ty k6.o)
    have HT69:=X1 (HT68.o.trans (Ty.tf k6.o))
    have HX69:=X1 (Ty.same k6.o HX68.o Xv)
    have HF69:=X1 (HF68.o.ty i3.o.ty i3.o.lt k6.o)
    have a3:=X1 hg69
    have c0_69:=a3.o.c0
    clear hg69 ht69
    by_cases hu0:z69=0
    ·subst hu0
     go_wp2_with fail
     refine (Gn.pick a3.o (by omega) 6 (by omega) (by omega)).mono ?_
     rintro e70 w70 ⟨z5,hz70,rfl,hg70,ht70⟩
     have k7:=X1 ht70
     have HP70:=X1 (HP69.o.ty k7.o)
     have HT70:=X1 (HT69.o.trans (Ty.tf k7.o))
     have HX70:=X1 (Ty.same k7.o HX69.o Xv)
     have HF70:=X1 (HF69.o.ty a3.o.ty a3.o.lt k7.o)
     have i4:=X1 hg70
     have c0_70:=i4.o.c0
     clear hg70 ht70
     go_wp2_with fail
     refine (HE4.o _ _ _ _ i4.o (by omega) (by omega)).mono ?_
     rintro e71 w71 ⟨v71,l71,rfl,w3,pn71,mn71,hg71,ht71⟩
     have k8:=X1 ht71
     have HP71:=X1 (HP70.o.ty k8.o)
     have HT71:=X1 (HT70.o.trans (Ty.tf k8.o))
     have HX71:=X1 (Ty.same k8.o HX70.o Xv)
     have HF71:=X1 (HF70.o.ty i4.o.ty i4.o.lt k8.o)
     have i5:=X1 hg71
     have c0_71:=i5.o.c0
     clear hg71 ht71
     obtain ⟨gq71,cq71,hv71⟩:=w3.form pn71
     subst hv71
     have HNa71:=X1 w3
     clear w3
     have HO:=X1 (fun t (_hts:ByteArray.size t≤1000000)=>XF ⟨21,0,0,t,0⟩ [_] _ _ 34360 (pr1 HNa71.o pn71) (by rw [fl1];omega) (by omega) (by simp))
     unfold ndV at HO
     go_wp2_with fail
     refine (HO.o _ (by first | omega | (rw [ByteArray.size_append];show 1+_≤_;omega))).mono ?_
     rintro e72 w72 ⟨v72,l72,rfl,w4,pn72,mn72,b72⟩
     have k9:=X1 (TyM.trans (TyM.of (M:=Mine) (bA _)) (TyM.of (M:=Mine) b72))
     have HP72:=X1 (HP71.o.ty k9.o)
     have HT72:=X1 (HT71.o.trans (Ty.tf k9.o))
     have HX72:=X1 (Ty.same k9.o HX71.o Xv)
     have HF72:=X1 (HF71.o.ty i5.o.ty i5.o.lt k9.o)
     have i6:=X1 ((i5.o.below (bA _)).below b72)
     have c0_72:=i6.o.c0
     clear b72
     obtain ⟨gq72,cq72,hv72⟩:=w4.form pn72
     subst hv72
     have HNr72:=X1 w4
     clear w4
     obtain ⟨vs73,pv73,pw73⟩:=HP72.o
     have HV73:=X1 pv73
     have HW73:=X1 pw73
     clear pv73 pw73
     have hz73:=HT72.o.size
     go_wp2_with (at_builtin;refine wpList_append_own_at _ rfl _ _ 106 rfl w.heap.size 23 iP _ 1 24 Tryz.underlying106 hP h6 h5 h4 rfl (by decide) _ ls.length vs73 rfl (HV73.o.alloc _) ⟨w72.heap.size,0,none⟩ 1 1 [.slice (some ⟨gq72,0,none⟩) l72.length cq72] rfl rfl (XK _ [_] _ _ rfl) (by simp [Value.oneCell']) (by unfold maxLen;omega) (by omega) (by simp;omega) ?_)
     intro v73 y5 x8 rb73 rc73 rd73
     obtain ⟨hp73,Y⟩:=pushed HV73.o HW73.o HNr72.o pn72 x8 rb73
     obtain ⟨sp73,sc73,hs73⟩:=Xc x8
     subst hs73
     have HP73:=X1 hp73
     have d9:=X1 (Y.gn i6.o h7)
     have HT73:=X1 (Y.tyM HT72.o (Nat.le_refl _))
     have HX73:=X1 (Y.same HX72.o (by decide))
     have HF73:=X1 (HF72.o.pf i6.o.ty i6.o.lt Y)
     clear hp73 Y x8 rb73 rc73 rd73
     obtain ⟨vn_74,xs_74,n1_74,c8,p2⟩:=d9.o.nm
     obtain ⟨np_74,nc_74,u9⟩:=Xc c8
     subst u9
     have t4:=c8.1
     have hkm_74:=d9.o.km
     have b9:=(Below.refl y5.heap.size y5).alloc (Nat.le_refl _) (.cells #[.string ((⟨#[95]⟩:ByteArray)++st),.int .i64 (z5:Int)] 142)
     have m:=X1 (d9.o.below b9)
     have f3:=(b9.cell (p:=⟨gb,1,none⟩) d9.o.lt).trans n1_74
     have B:=X1 (c8.alloc (.cells #[.string ((⟨#[95]⟩:ByteArray)++st),.int .i64 (z5:Int)] 142))
     have HS_74:=X1 (p2.snoc t4 ⟨((⟨#[95]⟩:ByteArray)++st),(by first | omega | (rw [ByteArray.size_append];show 1+_≤_;omega))⟩ (z5:Int))
     have s4:Hid (Ty y5 (y5.alloc (.cells #[.string ((⟨#[95]⟩:ByteArray)++st),.int .i64 (z5:Int)] 142))):=X1 (.of b9)
     have t9:rb+1≤(y5.alloc (.cells #[.string ((⟨#[95]⟩:ByteArray)++st),.int .i64 (z5:Int)] 142)).heap.size:=by have:=HT73.o.size;simp;omega
     clear c8 p2 b9
     go_wp2_with (at_builtin;refine wpList_append_own_at _ rfl _ _ 113 rfl (rb+1) 142 iN _ 2 24 Tryz.underlying113 z2 z4 z3 z1 rfl (by decide) _ _ xs_74 rfl B.o ⟨y5.heap.size,0,none⟩ 1 1 [.string ((⟨#[95]⟩:ByteArray)++st),.int .i64 (z5:Int)] rfl rfl (XK _ [_,_] _ _ rfl) (by simp [Value.oneCell']) (by unfold maxLen;omega) (by omega) t9 ?_)
     intro v5_74 w5_74 g3 K r3_74 r4_74
     have d3:some gb≠(Value.slice np_74 k nc_74).ownBlock:=fun e=>by have h1:=XV B.o e.symm;rw [m.o.ty] at h1;cases h1
     have q5_74:=(World.cell?_of_block (a:=⟨gb,1,none⟩) (K.block gb m.o.lt d3)).trans f3
     have q6_74:=(World.frozen?_of_block (a:=⟨gb,1,none⟩) (K.block gb m.o.lt d3)).trans (m.o.fr 1)
     obtain ⟨g5_74,c5_74,u4⟩:∃ g c,v5_74 = .slice (some ⟨g,0,none⟩) (k+1) c:=by
      rcases g3.2 with ⟨_,h0⟩ | ⟨g,c,_,h2,_⟩
      ·omega
      ·exact ⟨g,c,h2⟩
     subst u4
     have q8:=X1 (m.o.push f3 K g3 HS_74.o (by omega))
     have e8:Ty y5 (w5_74.setCell ⟨gb,1,none⟩ (.slice (some ⟨g5_74,0,none⟩) (k+1) c5_74)):=(s4.o.trans (.grown K (fun b hb=>by rw [XV B.o hb];exact .inr (.inr rfl)) (fun b hb=>by rw [XV B.o hb];decide) (fun b hb=>Nat.le_trans m.o.lo (Nat.le_of_succ_le (B.o.lt b hb).1)))).trans (.set (by rw [XX (K.block gb m.o.lt d3)];exact m.o.mine) (by decide))
     clear g3 K r3_74 r4_74 d3
     have l0:=X1 e8
     have HP74:=X1 (HP73.o.ty l0.o)
     have HT74:=X1 (HT73.o.trans (Ty.tf l0.o))
     have HX74:=X1 (Ty.same l0.o HX73.o Xv)
     have HF74:=X1 (HF73.o.ty d9.o.ty d9.o.lt l0.o)
     have HG74:=X1 q8.o
     have c0_74:=HG74.o.c0
     clear e8
     go_wp2
     go_roundw
     case rel=>exact ⟨i+1,k+1,_,by omega,by go_num,by omega,by rw [List.length_append];simp only [List.length_cons,List.length_nil];omega,by rw [List.flatten_append,List.length_append,fl1];omega,HP74.o,HG74.o.mono (by omega),HT74.o,HF74.o.mono (by omega),HX74.o⟩
     case measure=>simp [intOf];omega
    have hu1:((z69:Int) == 0)=false:=by simp;omega
    go_wp2_with fail
    refine (Gn.pick a3.o (by omega) 6 (by omega) (by omega)).mono ?_
    rintro e75 w75 ⟨z6,hz75,rfl,hg75,ht75⟩
    have l1:=X1 ht75
    have HP75:=X1 (HP69.o.ty l1.o)
    have HT75:=X1 (HT69.o.trans (Ty.tf l1.o))
    have HX75:=X1 (Ty.same l1.o HX69.o Xv)
    have HF75:=X1 (HF69.o.ty a3.o.ty a3.o.lt l1.o)
    have i7:=X1 hg75
    have c0_75:=i7.o.c0
    clear hg75 ht75
    go_wp2_with fail
    refine (HE4.o _ _ _ _ i7.o (by omega) (by omega)).mono ?_
    rintro e76 w76 ⟨v76,l76,rfl,w5,pn76,mn76,hg76,ht76⟩
    have l2:=X1 ht76
    have HP76:=X1 (HP75.o.ty l2.o)
    have HT76:=X1 (HT75.o.trans (Ty.tf l2.o))
    have HX76:=X1 (Ty.same l2.o HX75.o Xv)
    have HF76:=X1 (HF75.o.ty i7.o.ty i7.o.lt l2.o)
    have i8:=X1 hg76
    have c0_76:=i8.o.c0
    clear hg76 ht76
    obtain ⟨gq76,cq76,hv76⟩:=w5.form pn76
    subst hv76
    have HNa76:=X1 w5
    clear w5
    have HO:=X1 (fun t (_hts:ByteArray.size t≤1000000)=>XF ⟨21,0,0,t,0⟩ [_] _ _ 34360 (pr1 HNa76.o pn76) (by rw [fl1];omega) (by omega) (by simp))
    unfold ndV at HO
    go_wp2_with fail
    refine (HO.o _ (by first | omega | (rw [ByteArray.size_append];show 1+_≤_;omega))).mono ?_
    rintro e77 w77 ⟨v77,l77,rfl,w7,pn77,mn77,b77⟩
    have l3:=X1 (TyM.trans (TyM.of (M:=Mine) (bA _)) (TyM.of (M:=Mine) b77))
    have HP77:=X1 (HP76.o.ty l3.o)
    have HT77:=X1 (HT76.o.trans (Ty.tf l3.o))
    have HX77:=X1 (Ty.same l3.o HX76.o Xv)
    have HF77:=X1 (HF76.o.ty i8.o.ty i8.o.lt l3.o)
    have i9:=X1 ((i8.o.below (bA _)).below b77)
    have c0_77:=i9.o.c0
    clear b77
    obtain ⟨gq77,cq77,hv77⟩:=w7.form pn77
    subst hv77
    have HNr77:=X1 w7
    clear w7
    obtain ⟨vs78,pv78,pw78⟩:=HP77.o
    have HV78:=X1 pv78
    have HW78:=X1 pw78
    clear pv78 pw78
    have hz78:=HT77.o.size
    go_wp2_with (at_builtin;refine wpList_append_own_at _ rfl _ _ 106 rfl w.heap.size 23 iP _ 1 24 Tryz.underlying106 hP h6 h5 h4 rfl (by decide) _ ls.length vs78 rfl (HV78.o.alloc _) ⟨w77.heap.size,0,none⟩ 1 1 [.slice (some ⟨gq77,0,none⟩) l77.length cq77] rfl rfl (XK _ [_] _ _ rfl) (by simp [Value.oneCell']) (by unfold maxLen;omega) (by omega) (by simp;omega) ?_)
    intro v78 y6 x9 rb78 rc78 rd78
    obtain ⟨hp78,Z⟩:=pushed HV78.o HW78.o HNr77.o pn77 x9 rb78
    obtain ⟨sp78,sc78,hs78⟩:=Xc x9
    subst hs78
    have HP78:=X1 hp78
    have e0:=X1 (Z.gn i9.o h7)
    have HT78:=X1 (Z.tyM HT77.o (Nat.le_refl _))
    have HX78:=X1 (Z.same HX77.o (by decide))
    have HF78:=X1 (HF77.o.pf i9.o.ty i9.o.lt Z)
    clear hp78 Z x9 rb78 rc78 rd78
    obtain ⟨vn_79,xs_79,n1_79,c9,p3⟩:=e0.o.nm
    obtain ⟨np_79,nc_79,v0⟩:=Xc c9
    subst v0
    have t5:=c9.1
    have hkm_79:=e0.o.km
    have c1:=(Below.refl y6.heap.size y6).alloc (Nat.le_refl _) (.cells #[.string st,.int .i64 (z6:Int)] 142)
    have r:=X1 (e0.o.below c1)
    have f4:=(c1.cell (p:=⟨gb,1,none⟩) e0.o.lt).trans n1_79
    have C:=X1 (c9.alloc (.cells #[.string st,.int .i64 (z6:Int)] 142))
    have HS_79:=X1 (p3.snoc t5 ⟨st,(by first | omega | (rw [ByteArray.size_append];show 1+_≤_;omega))⟩ (z6:Int))
    have s5:Hid (Ty y6 (y6.alloc (.cells #[.string st,.int .i64 (z6:Int)] 142))):=X1 (.of c1)
    have u0:rb+1≤(y6.alloc (.cells #[.string st,.int .i64 (z6:Int)] 142)).heap.size:=by have:=HT78.o.size;simp;omega
    clear c9 p3 c1
    go_wp2_with (at_builtin;refine wpList_append_own_at _ rfl _ _ 113 rfl (rb+1) 142 iN _ 2 24 Tryz.underlying113 z2 z4 z3 z1 rfl (by decide) _ _ xs_79 rfl C.o ⟨y6.heap.size,0,none⟩ 1 1 [.string st,.int .i64 (z6:Int)] rfl rfl (XK _ [_,_] _ _ rfl) (by simp [Value.oneCell']) (by unfold maxLen;omega) (by omega) u0 ?_)
    intro v5_79 w5_79 g4 L r3_79 r4_79
    have d4:some gb≠(Value.slice np_79 k nc_79).ownBlock:=fun e=>by have h1:=XV C.o e.symm;rw [r.o.ty] at h1;cases h1
    have q5_79:=(World.cell?_of_block (a:=⟨gb,1,none⟩) (L.block gb r.o.lt d4)).trans f4
    have q6_79:=(World.frozen?_of_block (a:=⟨gb,1,none⟩) (L.block gb r.o.lt d4)).trans (r.o.fr 1)
    obtain ⟨g5_79,c5_79,u5⟩:∃ g c,v5_79 = .slice (some ⟨g,0,none⟩) (k+1) c:=by
     rcases g4.2 with ⟨_,h0⟩ | ⟨g,c,_,h2,_⟩
     ·omega
     ·exact ⟨g,c,h2⟩
    subst u5
    have q9:=X1 (r.o.push f4 L g4 HS_79.o (by omega))
    have e9:Ty y6 (w5_79.setCell ⟨gb,1,none⟩ (.slice (some ⟨g5_79,0,none⟩) (k+1) c5_79)):=(s5.o.trans (.grown L (fun b hb=>by rw [XV C.o hb];exact .inr (.inr rfl)) (fun b hb=>by rw [XV C.o hb];decide) (fun b hb=>Nat.le_trans r.o.lo (Nat.le_of_succ_le (C.o.lt b hb).1)))).trans (.set (by rw [XX (L.block gb r.o.lt d4)];exact r.o.mine) (by decide))
    clear g4 L r3_79 r4_79 d4
    have l4:=X1 e9
    have HP79:=X1 (HP78.o.ty l4.o)
    have HT79:=X1 (HT78.o.trans (Ty.tf l4.o))
    have HX79:=X1 (Ty.same l4.o HX78.o Xv)
    have HF79:=X1 (HF78.o.ty e0.o.ty e0.o.lt l4.o)
    have HG79:=X1 q9.o
    have c0_79:=HG79.o.c0
    clear e9
    go_wp2
    go_roundw
    case rel=>exact ⟨i+1,k+1,_,by omega,by go_num,by omega,by rw [List.length_append];simp only [List.length_cons,List.length_nil];omega,by rw [List.flatten_append,List.length_append,fl1];omega,HP79.o,HG79.o.mono (by omega),HT79.o,HF79.o.mono (by omega),HX79.o⟩
    case measure=>simp [intOf];omega
   by_cases hy3:h8=3
   ·subst hy3
    have h9:=X1 (fun w0=>ZU i w0 (by omega))
    have hdl:=Zi i
    generalize YB i=dc at *
    have n7:(⟨dc.toArray⟩:ByteArray).size≤1000:=by show dc.toArray.size≤_;simp;omega
    go_wp2_with fail
    refine (h9.o _).mono ?_
    rintro e80 w80 ⟨rfl,b80⟩
    have l5:=X1 (TyM.of (M:=Mine) b80)
    have HP80:=X1 (e4.o.ty l5.o)
    have HT80:=X1 (e5.o.trans (Ty.tf l5.o))
    have HX80:=X1 (Ty.same l5.o e7.o Xv)
    have HF80:=X1 (d8.o.ty f.o.ty f.o.lt l5.o)
    have j0:=X1 (f.o.below b80)
    have c0_80:=j0.o.c0
    clear b80
    have hsz3:((⟨#[115]⟩:ByteArray)++⟨dc.toArray⟩).size≤2000:=by rw [ByteArray.size_append];show 1+_≤_;omega
    generalize hst:(⟨#[115]⟩:ByteArray)++⟨dc.toArray⟩=st at *
    go_wp2_with fail
    try rw [hst]
    refine (Gn.pick j0.o (by omega) 8 (by omega) (by omega)).mono ?_
    rintro e81 w81 ⟨z81,hz81,rfl,hg81,ht81⟩
    have l7:=X1 ht81
    have HP81:=X1 (HP80.o.ty l7.o)
    have HT81:=X1 (HT80.o.trans (Ty.tf l7.o))
    have HX81:=X1 (Ty.same l7.o HX80.o Xv)
    have HF81:=X1 (HF80.o.ty j0.o.ty j0.o.lt l7.o)
    have a4:=X1 hg81
    have c0_81:=a4.o.c0
    clear hg81 ht81
    by_cases hu0:z81=0
    ·subst hu0
     go_wp2_with fail
     refine (Gn.pick a4.o (by omega) 6 (by omega) (by omega)).mono ?_
     rintro e82 w82 ⟨z7,hz82,rfl,hg82,ht82⟩
     have l8:=X1 ht82
     have HP82:=X1 (HP81.o.ty l8.o)
     have HT82:=X1 (HT81.o.trans (Ty.tf l8.o))
     have HX82:=X1 (Ty.same l8.o HX81.o Xv)
     have HF82:=X1 (HF81.o.ty a4.o.ty a4.o.lt l8.o)
     have j1:=X1 hg82
     have c0_82:=j1.o.c0
     clear hg82 ht82
     go_wp2_with fail
     refine (HE4.o _ _ _ _ j1.o (by omega) (by omega)).mono ?_
     rintro e83 w83 ⟨v83,l83,rfl,w8,pn83,mn83,hg83,ht83⟩
     have l9:=X1 ht83
     have HP83:=X1 (HP82.o.ty l9.o)
     have HT83:=X1 (HT82.o.trans (Ty.tf l9.o))
     have HX83:=X1 (Ty.same l9.o HX82.o Xv)
     have HF83:=X1 (HF82.o.ty j1.o.ty j1.o.lt l9.o)
     have j2:=X1 hg83
     have c0_83:=j2.o.c0
     clear hg83 ht83
     obtain ⟨gq83,cq83,hv83⟩:=w8.form pn83
     subst hv83
     have HNa83:=X1 w8
     clear w8
     have HO:=X1 (fun t (_hts:ByteArray.size t≤1000000)=>XF ⟨21,0,0,t,0⟩ [_] _ _ 34360 (pr1 HNa83.o pn83) (by rw [fl1];omega) (by omega) (by simp))
     unfold ndV at HO
     go_wp2_with fail
     refine (HO.o _ (by first | omega | (rw [ByteArray.size_append];show 1+_≤_;omega))).mono ?_
     rintro e84 w84 ⟨v84,l84,rfl,w9,pn84,mn84,b84⟩
     have m0:=X1 (TyM.trans (TyM.of (M:=Mine) (bA _)) (TyM.of (M:=Mine) b84))
     have HP84:=X1 (HP83.o.ty m0.o)
     have HT84:=X1 (HT83.o.trans (Ty.tf m0.o))
     have HX84:=X1 (Ty.same m0.o HX83.o Xv)
     have HF84:=X1 (HF83.o.ty j2.o.ty j2.o.lt m0.o)
     have j3:=X1 ((j2.o.below (bA _)).below b84)
     have c0_84:=j3.o.c0
     clear b84
     obtain ⟨gq84,cq84,hv84⟩:=w9.form pn84
     subst hv84
     have HNr84:=X1 w9
     clear w9
     obtain ⟨vs85,pv85,pw85⟩:=HP84.o
     have HV85:=X1 pv85
     have HW85:=X1 pw85
     clear pv85 pw85
     have hz85:=HT84.o.size
     go_wp2_with (at_builtin;refine wpList_append_own_at _ rfl _ _ 106 rfl w.heap.size 23 iP _ 1 24 Tryz.underlying106 hP h6 h5 h4 rfl (by decide) _ ls.length vs85 rfl (HV85.o.alloc _) ⟨w84.heap.size,0,none⟩ 1 1 [.slice (some ⟨gq84,0,none⟩) l84.length cq84] rfl rfl (XK _ [_] _ _ rfl) (by simp [Value.oneCell']) (by unfold maxLen;omega) (by omega) (by simp;omega) ?_)
     intro v85 y7 y0 rb85 rc85 rd85
     obtain ⟨hp85,a0⟩:=pushed HV85.o HW85.o HNr84.o pn84 y0 rb85
     obtain ⟨sp85,sc85,hs85⟩:=Xc y0
     subst hs85
     have HP85:=X1 hp85
     have e1:=X1 (a0.gn j3.o h7)
     have HT85:=X1 (a0.tyM HT84.o (Nat.le_refl _))
     have HX85:=X1 (a0.same HX84.o (by decide))
     have HF85:=X1 (HF84.o.pf j3.o.ty j3.o.lt a0)
     clear hp85 a0 y0 rb85 rc85 rd85
     obtain ⟨vn_86,xs_86,n1_86,d0,p4⟩:=e1.o.nm
     obtain ⟨np_86,nc_86,v2⟩:=Xc d0
     subst v2
     have t6:=d0.1
     have hkm_86:=e1.o.km
     have c2:=(Below.refl y7.heap.size y7).alloc (Nat.le_refl _) (.cells #[.string ((⟨#[95]⟩:ByteArray)++st),.int .i64 (z7:Int)] 142)
     have s:=X1 (e1.o.below c2)
     have f5:=(c2.cell (p:=⟨gb,1,none⟩) e1.o.lt).trans n1_86
     have D:=X1 (d0.alloc (.cells #[.string ((⟨#[95]⟩:ByteArray)++st),.int .i64 (z7:Int)] 142))
     have HS_86:=X1 (p4.snoc t6 ⟨((⟨#[95]⟩:ByteArray)++st),(by first | omega | (rw [ByteArray.size_append];show 1+_≤_;omega))⟩ (z7:Int))
     have s6:Hid (Ty y7 (y7.alloc (.cells #[.string ((⟨#[95]⟩:ByteArray)++st),.int .i64 (z7:Int)] 142))):=X1 (.of c2)
     have u1:rb+1≤(y7.alloc (.cells #[.string ((⟨#[95]⟩:ByteArray)++st),.int .i64 (z7:Int)] 142)).heap.size:=by have:=HT85.o.size;simp;omega
     clear d0 p4 c2
     go_wp2_with (at_builtin;refine wpList_append_own_at _ rfl _ _ 113 rfl (rb+1) 142 iN _ 2 24 Tryz.underlying113 z2 z4 z3 z1 rfl (by decide) _ _ xs_86 rfl D.o ⟨y7.heap.size,0,none⟩ 1 1 [.string ((⟨#[95]⟩:ByteArray)++st),.int .i64 (z7:Int)] rfl rfl (XK _ [_,_] _ _ rfl) (by simp [Value.oneCell']) (by unfold maxLen;omega) (by omega) u1 ?_)
     intro v5_86 w5_86 g5 O r3_86 r4_86
     have d5:some gb≠(Value.slice np_86 k nc_86).ownBlock:=fun e=>by have h1:=XV D.o e.symm;rw [s.o.ty] at h1;cases h1
     have q5_86:=(World.cell?_of_block (a:=⟨gb,1,none⟩) (O.block gb s.o.lt d5)).trans f5
     have q6_86:=(World.frozen?_of_block (a:=⟨gb,1,none⟩) (O.block gb s.o.lt d5)).trans (s.o.fr 1)
     obtain ⟨g5_86,c5_86,u6⟩:∃ g c,v5_86 = .slice (some ⟨g,0,none⟩) (k+1) c:=by
      rcases g5.2 with ⟨_,h0⟩ | ⟨g,c,_,h2,_⟩
      ·omega
      ·exact ⟨g,c,h2⟩
     subst u6
     have r0:=X1 (s.o.push f5 O g5 HS_86.o (by omega))
     have f0:Ty y7 (w5_86.setCell ⟨gb,1,none⟩ (.slice (some ⟨g5_86,0,none⟩) (k+1) c5_86)):=(s6.o.trans (.grown O (fun b hb=>by rw [XV D.o hb];exact .inr (.inr rfl)) (fun b hb=>by rw [XV D.o hb];decide) (fun b hb=>Nat.le_trans s.o.lo (Nat.le_of_succ_le (D.o.lt b hb).1)))).trans (.set (by rw [XX (O.block gb s.o.lt d5)];exact s.o.mine) (by decide))
     clear g5 O r3_86 r4_86 d5
     have m1:=X1 f0
     have HP86:=X1 (HP85.o.ty m1.o)
     have HT86:=X1 (HT85.o.trans (Ty.tf m1.o))
     have HX86:=X1 (Ty.same m1.o HX85.o Xv)
     have HF86:=X1 (HF85.o.ty e1.o.ty e1.o.lt m1.o)
     have HG86:=X1 r0.o
     have c0_86:=HG86.o.c0
     clear f0
     go_wp2
     go_roundw
     case rel=>exact ⟨i+1,k+1,_,by omega,by go_num,by omega,by rw [List.length_append];simp only [List.length_cons,List.length_nil];omega,by rw [List.flatten_append,List.length_append,fl1];omega,HP86.o,HG86.o.mono (by omega),HT86.o,HF86.o.mono (by omega),HX86.o⟩
     case measure=>simp [intOf];omega
    have hu1:((z81:Int) == 0)=false:=by simp;omega
    go_wp2_with fail
    refine (Gn.pick a4.o (by omega) 6 (by omega) (by omega)).mono ?_
    rintro e87 w87 ⟨z8,hz87,rfl,hg87,ht87⟩
    have m2:=X1 ht87
    have HP87:=X1 (HP81.o.ty m2.o)
    have HT87:=X1 (HT81.o.trans (Ty.tf m2.o))
    have HX87:=X1 (Ty.same m2.o HX81.o Xv)
    have HF87:=X1 (HF81.o.ty a4.o.ty a4.o.lt m2.o)
    have j4:=X1 hg87
    have c0_87:=j4.o.c0
    clear hg87 ht87
    go_wp2_with fail
    refine (HE4.o _ _ _ _ j4.o (by omega) (by omega)).mono ?_
    rintro e88 w88 ⟨v88,l88,rfl,x0,pn88,mn88,hg88,ht88⟩
    have m3:=X1 ht88
    have HP88:=X1 (HP87.o.ty m3.o)
    have HT88:=X1 (HT87.o.trans (Ty.tf m3.o))
    have HX88:=X1 (Ty.same m3.o HX87.o Xv)
    have HF88:=X1 (HF87.o.ty j4.o.ty j4.o.lt m3.o)
    have j5:=X1 hg88
    have c0_88:=j5.o.c0
    clear hg88 ht88
    obtain ⟨gq88,cq88,hv88⟩:=x0.form pn88
    subst hv88
    have HNa88:=X1 x0
    clear x0
    have HO:=X1 (fun t (_hts:ByteArray.size t≤1000000)=>XF ⟨21,0,0,t,0⟩ [_] _ _ 34360 (pr1 HNa88.o pn88) (by rw [fl1];omega) (by omega) (by simp))
    unfold ndV at HO
    go_wp2_with fail
    refine (HO.o _ (by first | omega | (rw [ByteArray.size_append];show 1+_≤_;omega))).mono ?_
    rintro e89 w89 ⟨v89,l89,rfl,x1,pn89,mn89,b89⟩
    have m4:=X1 (TyM.trans (TyM.of (M:=Mine) (bA _)) (TyM.of (M:=Mine) b89))
    have HP89:=X1 (HP88.o.ty m4.o)
    have HT89:=X1 (HT88.o.trans (Ty.tf m4.o))
    have HX89:=X1 (Ty.same m4.o HX88.o Xv)
    have HF89:=X1 (HF88.o.ty j5.o.ty j5.o.lt m4.o)
    have j6:=X1 ((j5.o.below (bA _)).below b89)
    have c0_89:=j6.o.c0
    clear b89
    obtain ⟨gq89,cq89,hv89⟩:=x1.form pn89
    subst hv89
    have HNr89:=X1 x1
    clear x1
    obtain ⟨vs90,pv90,pw90⟩:=HP89.o
    have HV90:=X1 pv90
    have HW90:=X1 pw90
    clear pv90 pw90
    have hz90:=HT89.o.size
    go_wp2_with (at_builtin;refine wpList_append_own_at _ rfl _ _ 106 rfl w.heap.size 23 iP _ 1 24 Tryz.underlying106 hP h6 h5 h4 rfl (by decide) _ ls.length vs90 rfl (HV90.o.alloc _) ⟨w89.heap.size,0,none⟩ 1 1 [.slice (some ⟨gq89,0,none⟩) l89.length cq89] rfl rfl (XK _ [_] _ _ rfl) (by simp [Value.oneCell']) (by unfold maxLen;omega) (by omega) (by simp;omega) ?_)
    intro v90 y8 y1 rb90 rc90 rd90
    obtain ⟨hp90,a1⟩:=pushed HV90.o HW90.o HNr89.o pn89 y1 rb90
    obtain ⟨sp90,sc90,hs90⟩:=Xc y1
    subst hs90
    have HP90:=X1 hp90
    have e2:=X1 (a1.gn j6.o h7)
    have HT90:=X1 (a1.tyM HT89.o (Nat.le_refl _))
    have HX90:=X1 (a1.same HX89.o (by decide))
    have HF90:=X1 (HF89.o.pf j6.o.ty j6.o.lt a1)
    clear hp90 a1 y1 rb90 rc90 rd90
    obtain ⟨vn_91,xs_91,n1_91,d1,p5⟩:=e2.o.nm
    obtain ⟨np_91,nc_91,v3⟩:=Xc d1
    subst v3
    have t7:=d1.1
    have hkm_91:=e2.o.km
    have c3:=(Below.refl y8.heap.size y8).alloc (Nat.le_refl _) (.cells #[.string st,.int .i64 (z8:Int)] 142)
    have x:=X1 (e2.o.below c3)
    have f6:=(c3.cell (p:=⟨gb,1,none⟩) e2.o.lt).trans n1_91
    have E:=X1 (d1.alloc (.cells #[.string st,.int .i64 (z8:Int)] 142))
    have HS_91:=X1 (p5.snoc t7 ⟨st,(by first | omega | (rw [ByteArray.size_append];show 1+_≤_;omega))⟩ (z8:Int))
    have s7:Hid (Ty y8 (y8.alloc (.cells #[.string st,.int .i64 (z8:Int)] 142))):=X1 (.of c3)
    have u2:rb+1≤(y8.alloc (.cells #[.string st,.int .i64 (z8:Int)] 142)).heap.size:=by have:=HT90.o.size;simp;omega
    clear d1 p5 c3
    go_wp2_with (at_builtin;refine wpList_append_own_at _ rfl _ _ 113 rfl (rb+1) 142 iN _ 2 24 Tryz.underlying113 z2 z4 z3 z1 rfl (by decide) _ _ xs_91 rfl E.o ⟨y8.heap.size,0,none⟩ 1 1 [.string st,.int .i64 (z8:Int)] rfl rfl (XK _ [_,_] _ _ rfl) (by simp [Value.oneCell']) (by unfold maxLen;omega) (by omega) u2 ?_)
    intro v5_91 w5_91 g7 P r3_91 r4_91
    have d6:some gb≠(Value.slice np_91 k nc_91).ownBlock:=fun e=>by have h1:=XV E.o e.symm;rw [x.o.ty] at h1;cases h1
    have q5_91:=(World.cell?_of_block (a:=⟨gb,1,none⟩) (P.block gb x.o.lt d6)).trans f6
    have q6_91:=(World.frozen?_of_block (a:=⟨gb,1,none⟩) (P.block gb x.o.lt d6)).trans (x.o.fr 1)
    obtain ⟨g5_91,c5_91,u7⟩:∃ g c,v5_91 = .slice (some ⟨g,0,none⟩) (k+1) c:=by
     rcases g7.2 with ⟨_,h0⟩ | ⟨g,c,_,h2,_⟩
     ·omega
     ·exact ⟨g,c,h2⟩
    subst u7
    have r5:=X1 (x.o.push f6 P g7 HS_91.o (by omega))
    have f1:Ty y8 (w5_91.setCell ⟨gb,1,none⟩ (.slice (some ⟨g5_91,0,none⟩) (k+1) c5_91)):=(s7.o.trans (.grown P (fun b hb=>by rw [XV E.o hb];exact .inr (.inr rfl)) (fun b hb=>by rw [XV E.o hb];decide) (fun b hb=>Nat.le_trans x.o.lo (Nat.le_of_succ_le (E.o.lt b hb).1)))).trans (.set (by rw [XX (P.block gb x.o.lt d6)];exact x.o.mine) (by decide))
    clear g7 P r3_91 r4_91 d6
    have m5:=X1 f1
    have HP91:=X1 (HP90.o.ty m5.o)
    have HT91:=X1 (HT90.o.trans (Ty.tf m5.o))
    have HX91:=X1 (Ty.same m5.o HX90.o Xv)
    have HF91:=X1 (HF90.o.ty e2.o.ty e2.o.lt m5.o)
    have HG91:=X1 r5.o
    have c0_91:=HG91.o.c0
    clear f1
    go_wp2
    go_roundw
    case rel=>exact ⟨i+1,k+1,_,by omega,by go_num,by omega,by rw [List.length_append];simp only [List.length_cons,List.length_nil];omega,by rw [List.flatten_append,List.length_append,fl1];omega,HP91.o,HG91.o.mono (by omega),HT91.o,HF91.o.mono (by omega),HX91.o⟩
    case measure=>simp [intOf];omega
   by_cases hy4:h8=4
   ·subst hy4
    have h9:=X1 (fun w0=>ZU i w0 (by omega))
    have hdl:=Zi i
    generalize YB i=dc at *
    have n7:(⟨dc.toArray⟩:ByteArray).size≤1000:=by show dc.toArray.size≤_;simp;omega
    go_wp2_with fail
    refine (h9.o _).mono ?_
    rintro e92 w92 ⟨rfl,b92⟩
    have m7:=X1 (TyM.of (M:=Mine) b92)
    have HP92:=X1 (e4.o.ty m7.o)
    have HT92:=X1 (e5.o.trans (Ty.tf m7.o))
    have HX92:=X1 (Ty.same m7.o e7.o Xv)
    have HF92:=X1 (d8.o.ty f.o.ty f.o.lt m7.o)
    have j7:=X1 (f.o.below b92)
    have c0_92:=j7.o.c0
    clear b92
    have hsz3:((⟨#[115]⟩:ByteArray)++⟨dc.toArray⟩).size≤2000:=by rw [ByteArray.size_append];show 1+_≤_;omega
    generalize hst:(⟨#[115]⟩:ByteArray)++⟨dc.toArray⟩=st at *
    go_wp2_with fail
    try rw [hst]
    refine (Gn.pick j7.o (by omega) 8 (by omega) (by omega)).mono ?_
    rintro e93 w93 ⟨z93,hz93,rfl,hg93,ht93⟩
    have m8:=X1 ht93
    have HP93:=X1 (HP92.o.ty m8.o)
    have HT93:=X1 (HT92.o.trans (Ty.tf m8.o))
    have HX93:=X1 (Ty.same m8.o HX92.o Xv)
    have HF93:=X1 (HF92.o.ty j7.o.ty j7.o.lt m8.o)
    have a5:=X1 hg93
    have c0_93:=a5.o.c0
    clear hg93 ht93
    by_cases hu0:z93=0
    ·subst hu0
     go_wp2_with fail
     refine (Gn.pick a5.o (by omega) 6 (by omega) (by omega)).mono ?_
     rintro e94 w94 ⟨z9,hz94,rfl,hg94,ht94⟩
     have m9:=X1 ht94
     have HP94:=X1 (HP93.o.ty m9.o)
     have HT94:=X1 (HT93.o.trans (Ty.tf m9.o))
     have HX94:=X1 (Ty.same m9.o HX93.o Xv)
     have HF94:=X1 (HF93.o.ty a5.o.ty a5.o.lt m9.o)
     have j8:=X1 hg94
     have c0_94:=j8.o.c0
     clear hg94 ht94
     go_wp2_with fail
     refine (HE4.o _ _ _ _ j8.o (by omega) (by omega)).mono ?_
     rintro e95 w95 ⟨v95,l95,rfl,x2,pn95,mn95,hg95,ht95⟩
     have n0:=X1 ht95
     have HP95:=X1 (HP94.o.ty n0.o)
     have HT95:=X1 (HT94.o.trans (Ty.tf n0.o))
     have HX95:=X1 (Ty.same n0.o HX94.o Xv)
     have HF95:=X1 (HF94.o.ty j8.o.ty j8.o.lt n0.o)
     have j9:=X1 hg95
     have c0_95:=j9.o.c0
     clear hg95 ht95
     obtain ⟨gq95,cq95,hv95⟩:=x2.form pn95
     subst hv95
     have HNa95:=X1 x2
     clear x2
     have HO:=X1 (fun t (_hts:ByteArray.size t≤1000000)=>XF ⟨21,0,0,t,0⟩ [_] _ _ 34360 (pr1 HNa95.o pn95) (by rw [fl1];omega) (by omega) (by simp))
     unfold ndV at HO
     go_wp2_with fail
     refine (HO.o _ (by first | omega | (rw [ByteArray.size_append];show 1+_≤_;omega))).mono ?_
     rintro e96 w96 ⟨v96,l96,rfl,x3,pn96,mn96,b96⟩
     have n1:=X1 (TyM.trans (TyM.of (M:=Mine) (bA _)) (TyM.of (M:=Mine) b96))
     have HP96:=X1 (HP95.o.ty n1.o)
     have HT96:=X1 (HT95.o.trans (Ty.tf n1.o))
     have HX96:=X1 (Ty.same n1.o HX95.o Xv)
     have HF96:=X1 (HF95.o.ty j9.o.ty j9.o.lt n1.o)
     have k0:=X1 ((j9.o.below (bA _)).below b96)
     have c0_96:=k0.o.c0
     clear b96
     obtain ⟨gq96,cq96,hv96⟩:=x3.form pn96
     subst hv96
     have HNr96:=X1 x3
     clear x3
     obtain ⟨vs97,pv97,pw97⟩:=HP96.o
     have HV97:=X1 pv97
     have HW97:=X1 pw97
     clear pv97 pw97
     have hz97:=HT96.o.size
     go_wp2_with (at_builtin;refine wpList_append_own_at _ rfl _ _ 106 rfl w.heap.size 23 iP _ 1 24 Tryz.underlying106 hP h6 h5 h4 rfl (by decide) _ ls.length vs97 rfl (HV97.o.alloc _) ⟨w96.heap.size,0,none⟩ 1 1 [.slice (some ⟨gq96,0,none⟩) l96.length cq96] rfl rfl (XK _ [_] _ _ rfl) (by simp [Value.oneCell']) (by unfold maxLen;omega) (by omega) (by simp;omega) ?_)
     intro v97 y9 y2 rb97 rc97 rd97
     obtain ⟨hp97,a2⟩:=pushed HV97.o HW97.o HNr96.o pn96 y2 rb97
     obtain ⟨sp97,sc97,hs97⟩:=Xc y2
     subst hs97
     have HP97:=X1 hp97
     have e3:=X1 (a2.gn k0.o h7)
     have HT97:=X1 (a2.tyM HT96.o (Nat.le_refl _))
     have HX97:=X1 (a2.same HX96.o (by decide))
     have HF97:=X1 (HF96.o.pf k0.o.ty k0.o.lt a2)
     clear hp97 a2 y2 rb97 rc97 rd97
     obtain ⟨vn_98,xs_98,n1_98,d2,p7⟩:=e3.o.nm
     obtain ⟨np_98,nc_98,v4⟩:=Xc d2
     subst v4
     have t8:=d2.1
     have hkm_98:=e3.o.km
     have c4:=(Below.refl y9.heap.size y9).alloc (Nat.le_refl _) (.cells #[.string ((⟨#[95]⟩:ByteArray)++st),.int .i64 (z9:Int)] 142)
     have y:=X1 (e3.o.below c4)
     have f7:=(c4.cell (p:=⟨gb,1,none⟩) e3.o.lt).trans n1_98
     have F:=X1 (d2.alloc (.cells #[.string ((⟨#[95]⟩:ByteArray)++st),.int .i64 (z9:Int)] 142))
     have HS_98:=X1 (p7.snoc t8 ⟨((⟨#[95]⟩:ByteArray)++st),(by first | omega | (rw [ByteArray.size_append];show 1+_≤_;omega))⟩ (z9:Int))
     have s8:Hid (Ty y9 (y9.alloc (.cells #[.string ((⟨#[95]⟩:ByteArray)++st),.int .i64 (z9:Int)] 142))):=X1 (.of c4)
     have u3:rb+1≤(y9.alloc (.cells #[.string ((⟨#[95]⟩:ByteArray)++st),.int .i64 (z9:Int)] 142)).heap.size:=by have:=HT97.o.size;simp;omega
     clear d2 p7 c4
     go_wp2_with (at_builtin;refine wpList_append_own_at _ rfl _ _ 113 rfl (rb+1) 142 iN _ 2 24 Tryz.underlying113 z2 z4 z3 z1 rfl (by decide) _ _ xs_98 rfl F.o ⟨y9.heap.size,0,none⟩ 1 1 [.string ((⟨#[95]⟩:ByteArray)++st),.int .i64 (z9:Int)] rfl rfl (XK _ [_,_] _ _ rfl) (by simp [Value.oneCell']) (by unfold maxLen;omega) (by omega) u3 ?_)
     intro v5_98 w5_98 g8 Q r3_98 r4_98
     have d7:some gb≠(Value.slice np_98 k nc_98).ownBlock:=fun e=>by have h1:=XV F.o e.symm;rw [y.o.ty] at h1;cases h1
     have q5_98:=(World.cell?_of_block (a:=⟨gb,1,none⟩) (Q.block gb y.o.lt d7)).trans f7
     have q6_98:=(World.frozen?_of_block (a:=⟨gb,1,none⟩) (Q.block gb y.o.lt d7)).trans (y.o.fr 1)
     obtain ⟨g5_98,c5_98,u8⟩:∃ g c,v5_98 = .slice (some ⟨g,0,none⟩) (k+1) c:=by
      rcases g8.2 with ⟨_,h0⟩ | ⟨g,c,_,h2,_⟩
      ·omega
      ·exact ⟨g,c,h2⟩
     subst u8
     have r6:=X1 (y.o.push f7 Q g8 HS_98.o (by omega))
     have f2:Ty y9 (w5_98.setCell ⟨gb,1,none⟩ (.slice (some ⟨g5_98,0,none⟩) (k+1) c5_98)):=(s8.o.trans (.grown Q (fun b hb=>by rw [XV F.o hb];exact .inr (.inr rfl)) (fun b hb=>by rw [XV F.o hb];decide) (fun b hb=>Nat.le_trans y.o.lo (Nat.le_of_succ_le (F.o.lt b hb).1)))).trans (.set (by rw [XX (Q.block gb y.o.lt d7)];exact y.o.mine) (by decide))
     clear g8 Q r3_98 r4_98 d7
     have n2:=X1 f2
     have HP98:=X1 (HP97.o.ty n2.o)
     have HT98:=X1 (HT97.o.trans (Ty.tf n2.o))
     have HX98:=X1 (Ty.same n2.o HX97.o Xv)
     have HF98:=X1 (HF97.o.ty e3.o.ty e3.o.lt n2.o)
     have HG98:=X1 r6.o
     have c0_98:=HG98.o.c0
     clear f2
     go_wp2
     go_roundw
     case rel=>exact ⟨i+1,k+1,_,by omega,by go_num,by omega,by rw [List.length_append];simp only [List.length_cons,List.length_nil];omega,by rw [List.flatten_append,List.length_append,fl1];omega,HP98.o,HG98.o.mono (by omega),HT98.o,HF98.o.mono (by omega),HX98.o⟩
     case measure=>simp [intOf];omega
    have hu1:((z93:Int) == 0)=false:=by simp;omega
    go_wp2_with fail
    refine (Gn.pick a5.o (by omega) 6 (by omega) (by omega)).mono ?_
    rintro e99 w99 ⟨z99,hz99,rfl,hg99,ht99⟩
    have n3:=X1 ht99
    have HP99:=X1 (HP93.o.ty n3.o)
    have HT99:=X1 (HT93.o.trans (Ty.tf n3.o))
    have HX99:=X1 (Ty.same n3.o HX93.o Xv)
    have HF99:=X1 (HF93.o.ty a5.o.ty a5.o.lt n3.o)
    have k1:=X1 hg99
    have c0_99:=k1.o.c0
    clear hg99 ht99
    go_wp2_with fail
    refine (HE4.o _ _ _ _ k1.o (by omega) (by omega)).mono ?_
    rintro e100 w100 ⟨v100,l100,rfl,f9,p8,mn100,o6,p0⟩
    have b3:=X1 p0
    have HP100:=X1 (HP99.o.ty b3.o)
    have HT100:=X1 (HT99.o.trans (Ty.tf b3.o))
    have HX100:=X1 (Ty.same b3.o HX99.o Xv)
    have HF100:=X1 (HF99.o.ty k1.o.ty k1.o.lt b3.o)
    have a8:=X1 o6
    have c0_100:=a8.o.c0
    clear o6 p0
    obtain ⟨gq100,cq100,hv100⟩:=f9.form p8
    subst hv100
    have r7:=X1 f9
    clear f9
    have HO:=X1 (fun t (_hts:ByteArray.size t≤1000000)=>XF ⟨21,0,0,t,0⟩ [_] _ _ 34360 (pr1 r7.o p8) (by rw [fl1];omega) (by omega) (by simp))
    unfold ndV at HO
    go_wp2_with fail
    refine (HO.o _ (by first | omega | (rw [ByteArray.size_append];show 1+_≤_;omega))).mono ?_
    rintro e101 w101 ⟨v101,l101,rfl,g0,p9,mn101,s9⟩
    have b4:=X1 (TyM.trans (TyM.of (M:=Mine) (bA _)) (TyM.of (M:=Mine) s9))
    have HP101:=X1 (HP100.o.ty b4.o)
    have o1:=X1 (HT100.o.trans (Ty.tf b4.o))
    have HX101:=X1 (Ty.same b4.o HX100.o Xv)
    have HF101:=X1 (HF100.o.ty a8.o.ty a8.o.lt b4.o)
    have a9:=X1 ((a8.o.below (bA _)).below s9)
    have c0_101:=a9.o.c0
    clear s9
    obtain ⟨gq101,cq101,hv101⟩:=g0.form p9
    subst hv101
    have r9:=X1 g0
    clear g0
    obtain ⟨vs102,q2,q4⟩:=HP101.o
    have o4:=X1 q2
    have HW102:=X1 q4
    clear q2 q4
    have hz102:=o1.o.size
    go_wp2_with (at_builtin;refine wpList_append_own_at _ rfl _ _ 106 rfl w.heap.size 23 iP _ 1 24 Tryz.underlying106 hP h6 h5 h4 rfl (by decide) _ ls.length vs102 rfl (o4.o.alloc _) ⟨w101.heap.size,0,none⟩ 1 1 [.slice (some ⟨gq101,0,none⟩) l101.length cq101] rfl rfl (XK _ [_] _ _ rfl) (by simp [Value.oneCell']) (by unfold maxLen;omega) (by omega) (by simp;omega) ?_)
    intro v102 a7 g9 q6 rc102 rd102
    obtain ⟨o8,H⟩:=pushed o4.o HW102.o r9.o p9 g9 q6
    obtain ⟨sp102,sc102,hs102⟩:=Xc g9
    subst hs102
    have HP102:=X1 o8
    have J:=X1 (H.gn a9.o h7)
    have o2:=X1 (H.tyM o1.o (Nat.le_refl _))
    have HX102:=X1 (H.same HX101.o (by decide))
    have HF102:=X1 (HF101.o.pf a9.o.ty a9.o.lt H)
    clear o8 H g9 q6 rc102 rd102
    obtain ⟨vn_103,z0,v5,U,f8⟩:=J.o.nm
    obtain ⟨v8,v7,n9⟩:=Xc U
    subst n9
    have n5:=U.1
    have hkm_103:=J.o.km
    have S:=(Below.refl a7.heap.size a7).alloc (Nat.le_refl _) (.cells #[.string st,.int .i64 (z99:Int)] 142)
    have d:=X1 (J.o.below S)
    have c7:=(S.cell (p:=⟨gb,1,none⟩) J.o.lt).trans v5
    have z:=X1 (U.alloc (.cells #[.string st,.int .i64 (z99:Int)] 142))
    have s3:=X1 (f8.snoc n5 ⟨st,(by first | omega | (rw [ByteArray.size_append];show 1+_≤_;omega))⟩ (z99:Int))
    have n4:Hid (Ty a7 (a7.alloc (.cells #[.string st,.int .i64 (z99:Int)] 142))):=X1 (.of S)
    have n6:rb+1≤(a7.alloc (.cells #[.string st,.int .i64 (z99:Int)] 142)).heap.size:=by have:=o2.o.size;simp;omega
    clear U f8 S
    go_wp2_with (at_builtin;refine wpList_append_own_at _ rfl _ _ 113 rfl (rb+1) 142 iN _ 2 24 Tryz.underlying113 z2 z4 z3 z1 rfl (by decide) _ _ z0 rfl z.o ⟨a7.heap.size,0,none⟩ 1 1 [.string st,.int .i64 (z99:Int)] rfl rfl (XK _ [_,_] _ _ rfl) (by simp [Value.oneCell']) (by unfold maxLen;omega) (by omega) n6 ?_)
    intro y3 y4 a6 A x4 x5
    have V:some gb≠(Value.slice v8 k v7).ownBlock:=fun e=>by have h1:=XV z.o e.symm;rw [d.o.ty] at h1;cases h1
    have q5_103:=(World.cell?_of_block (a:=⟨gb,1,none⟩) (A.block gb d.o.lt V)).trans c7
    have q6_103:=(World.frozen?_of_block (a:=⟨gb,1,none⟩) (A.block gb d.o.lt V)).trans (d.o.fr 1)
    obtain ⟨t3,t2,n8⟩:∃ g c,y3 = .slice (some ⟨g,0,none⟩) (k+1) c:=by
     rcases a6.2 with ⟨_,h0⟩ | ⟨g,c,_,h2,_⟩
     ·omega
     ·exact ⟨g,c,h2⟩
    subst n8
    have i0:=X1 (d.o.push c7 A a6 s3.o (by omega))
    have c5:Ty a7 (y4.setCell ⟨gb,1,none⟩ (.slice (some ⟨t3,0,none⟩) (k+1) t2)):=(n4.o.trans (.grown A (fun b hb=>by rw [XV z.o hb];exact .inr (.inr rfl)) (fun b hb=>by rw [XV z.o hb];decide) (fun b hb=>Nat.le_trans d.o.lo (Nat.le_of_succ_le (z.o.lt b hb).1)))).trans (.set (by rw [XX (A.block gb d.o.lt V)];exact d.o.mine) (by decide))
    clear a6 A x4 x5 V
    have b5:=X1 c5
    have HP103:=X1 (HP102.o.ty b5.o)
    have HT103:=X1 (o2.o.trans (Ty.tf b5.o))
    have HX103:=X1 (Ty.same b5.o HX102.o Xv)
    have HF103:=X1 (HF102.o.ty J.o.ty J.o.lt b5.o)
    have o0:=X1 i0.o
    have c0_103:=o0.o.c0
    clear c5
    go_wp2
    go_roundw
    case rel=>exact ⟨i+1,k+1,_,by omega,by go_num,by omega,by rw [List.length_append];simp only [List.length_cons,List.length_nil];omega,by rw [List.flatten_append,List.length_append,fl1];omega,HP103.o,o0.o.mono (by omega),HT103.o,HF103.o.mono (by omega),HX103.o⟩
    case measure=>simp [intOf];omega
   have hx0:((h8:Int) == 0)=false:=by simp;omega
   have hx1:((h8:Int) == 1)=false:=by simp;omega
   have hx2:((h8:Int) == 2)=false:=by simp;omega
   have hx3:((h8:Int) == 3)=false:=by simp;omega
   have hx4:((h8:Int) == 4)=false:=by simp;omega
   go_wp2_with fail
   refine (HE3.o _ _ _ _ f.o (by omega) (by omega)).mono ?_
   rintro e104 w104 ⟨v104,l104,rfl,g1,q0,mn104,o7,p1⟩
   have b7:=X1 p1
   have HP104:=X1 (e4.o.ty b7.o)
   have HT104:=X1 (e5.o.trans (Ty.tf b7.o))
   have HX104:=X1 (Ty.same b7.o e7.o Xv)
   have HF104:=X1 (d8.o.ty f.o.ty f.o.lt b7.o)
   have b0:=X1 o7
   have c0_104:=b0.o.c0
   clear o7 p1
   obtain ⟨gq104,cq104,hv104⟩:=g1.form q0
   subst hv104
   have r8:=X1 g1
   clear g1
   have HO:=X1 (XF ⟨22,0,0,⟨#[]⟩,0⟩ [_] _ _ 6860 (pr1 r8.o q0) (by rw [fl1];omega) (by omega) (by simp))
   unfold ndV at HO
   go_wp2_with fail
   refine (HO.o).mono ?_
   rintro e105 w105 ⟨v105,l105,rfl,g2,q1,mn105,t1⟩
   have b8:=X1 (TyM.trans (TyM.of (M:=Mine) (bA _)) (TyM.of (M:=Mine) t1))
   have HP105:=X1 (HP104.o.ty b8.o)
   have o3:=X1 (HT104.o.trans (Ty.tf b8.o))
   have HX105:=X1 (Ty.same b8.o HX104.o Xv)
   have HF105:=X1 (HF104.o.ty b0.o.ty b0.o.lt b8.o)
   have b2:=X1 ((b0.o.below (bA _)).below t1)
   have c0_105:=b2.o.c0
   clear t1
   obtain ⟨gq105,cq105,hv105⟩:=g2.form q1
   subst hv105
   have s0:=X1 g2
   clear g2
   obtain ⟨vs106,q3,q5⟩:=HP105.o
   have o5:=X1 q3
   have HW106:=X1 q5
   clear q3 q5
   have hz106:=o3.o.size
   go_wp2_with (at_builtin;refine wpList_append_own_at _ rfl _ _ 106 rfl w.heap.size 23 iP _ 1 24 Tryz.underlying106 hP h6 h5 h4 rfl (by decide) _ ls.length vs106 rfl (o5.o.alloc _) ⟨w105.heap.size,0,none⟩ 1 1 [.slice (some ⟨gq105,0,none⟩) l105.length cq105] rfl rfl (XK _ [_] _ _ rfl) (by simp [Value.oneCell']) (by unfold maxLen;omega) (by omega) (by simp;omega) ?_)
   intro v106 w106 h3 q7 rc106 rd106
   obtain ⟨o9,I⟩:=pushed o5.o HW106.o s0.o q1 h3 q7
   obtain ⟨sp106,sc106,hs106⟩:=Xc h3
   subst hs106
   have HP106:=X1 o9
   have HG106:=X1 (I.gn b2.o h7)
   have HT106:=X1 (I.tyM o3.o (Nat.le_refl _))
   have HX106:=X1 (I.same HX105.o (by decide))
   have HF106:=X1 (HF105.o.pf b2.o.ty b2.o.lt I)
   clear o9 I h3 q7 rc106 rd106
   go_wp2
   go_roundw
   case rel=>exact ⟨i+1,k,_,by omega,by go_num,by omega,by rw [List.length_append];simp only [List.length_cons,List.length_nil];omega,by rw [List.flatten_append,List.length_append,fl1];omega,HP106.o,HG106.o.mono (by omega),HT106.o,HF106.o.mono (by omega),HX106.o⟩
   case measure=>simp [intOf];omega
  ·have HO:=X1 (XF ⟨24,0,0,⟨#[]⟩,0⟩ ls _ _ 240000 HPr.o.pr (by omega) (by omega) (by omega))
   unfold ndV at HO
   go_wp2_with fail
   refine HO.o.mono ?_
   rintro e6 w6 ⟨v6,l6,rfl,nr6,p6,m6,b6⟩
   obtain ⟨g6,c6,hv6⟩:=nr6.form p6
   subst hv6
   have hX6:=TyM.same HXr.o b6
   have t0:=(Xo hX6).1
   have ft:=(Xo hX6).2
   have hty:tyAt w6 w.heap.size≠some 35:=by unfold tyAt;rw [hX6];decide
   have HN6:Hid (NR (w6.setCell ⟨w.heap.size,0,none⟩ (.slice (some ⟨g6,0,none⟩) l6.length c6)) (.slice (some ⟨g6,0,none⟩) l6.length c6) l6):=X1 ⟨Yb nr6.1 hty,nr6.2⟩
   have HG6:=X1 (gn_set (o:=0) (v:= .slice (some ⟨g6,0,none⟩) l6.length c6) (HGr.o.below b6) h7 hX6)
   have HT6:=X1 (Zk (o:=0) (v:= .slice (some ⟨g6,0,none⟩) l6.length c6) (HTr.o.trans (.of b6)) (Nat.le_refl _))
   clear nr6 b6 hX6
   go_wp2
   exact bodyPost_ret (v:= .agg #[.slice (some ⟨g6,0,none⟩) l6.length c6]) (by simp [results,Tryz.results65,go_sem,t0]) rfl ⟨_,_,k,rfl,HN6.o,p6,by omega,HG6.o.mono (by omega),HT6.o⟩
end Go.Proofs.YtimbaebigjjkaaaGreatDoor
