"""Machines of states that read bytes, made from drawings as small as can be."""
