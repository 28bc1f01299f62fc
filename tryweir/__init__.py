"""Tryweir: tries again without storms, the least toll of them with papers from both sides."""
