"""Tops of patchwork: moved by turns and mirrors, what keeps them, and which are alike."""
