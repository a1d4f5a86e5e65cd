"""Frametally: the virtual memory of several processors."""
